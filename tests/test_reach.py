import unittest

from cases import Case, drawing, full_span, state_of
from freetops.errors import LowRank
from freetops.reach import all_near, deepest, reach
from freetops.rests import rests
from freetops.rows import height_of
from freetops.spans import Span, all_rows

SPAN = Span(5, (0, 0), [((0, 1), (3,)), ((2,), (0, 1))])
LOW = [Span(5, (0, 0), [((0, 1), (0, 1))]), Span(5, (0,)), Span(2, (0, 0), [((), ())])]


class Reach(Case):
    def test_example(self):
        self.same(reach(SPAN), 0)

    def test_against_all_rests(self):
        draw = drawing(311)
        for _ in range(60):
            span = full_span(draw, (2, 3), 2, draw.randrange(1, 4))
            if span.size > 7:
                continue
            heights = [height_of(rest, span.lifts) for rest in rests(span) if any(rest)]
            most = max(heights, default=None)
            self.same(reach(span), most)
            if most is None:
                self.assertIsNone(deepest(span))
            for within in (-200, -1, 0, 1, 200, *heights):
                self.same(all_near(span, within=within), all(height <= within for height in heights))

    def test_drawn_deepest_rests(self):
        draw = drawing(312)
        for _ in range(60):
            span = full_span(draw)
            degrees = [len(row[lead]) - 1 for row, lead in zip(span.key(), span.leads())]
            found = reach(span)
            self.same(found, max((h - 1 for h, degree in zip(span.heights, degrees) if degree > 0), default=None))
            rest = deepest(span)
            if rest is not None:
                self.same([span.rest_of(rest), height_of(rest, span.lifts)], [rest, found])
                self.same([all_near(span=span, within=found), all_near(span, within=found - 1)], [True, False])

    def test_no_reach(self):
        for span in (all_rows(5, (3, -20)), all_rows(2, (0,))):
            self.same([reach(span=span), deepest(span=span)], [None, None])
            self.same([all_near(span, within=within) for within in (-200, 0, 200)], [True] * 3)

    def test_high_rows_without_a_degree_at_their_lead_do_not_count(self):
        span = Span(5, (0, 20), [((0, 0, 1), ()), ((), (1,))])
        self.same([span.heights, reach(span), deepest(span), all_near(span, within=1), all_near(span, within=0)],
                  [(2, 20), 1, ((0, 1), ()), True, False])
        self.same([reach(Span(5, (-7,), [((1, 1),)])), deepest(Span(5, (-7,), [((1, 1),)]))], [-7, ((1,),)])

    def test_low_rank(self):
        for span in LOW:
            worth = {"rank": span.rank}
            self.raises(LowRank, worth, reach, span)
            self.raises(LowRank, worth, deepest, span)
            self.raises(LowRank, worth, all_near, span, within=0)

    def test_spans_do_not_change(self):
        before = state_of(SPAN)
        self.same([reach(SPAN), deepest(SPAN), all_near(SPAN, within=0), state_of(SPAN)], [0, deepest(SPAN), True, before])


if __name__ == "__main__":
    unittest.main()
