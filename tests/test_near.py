import itertools
import unittest

from cases import WRONG, Case, bent, drawing, drawn_row, drawn_span, full_span, row_in, state_of
from freetops.division import divides
from freetops.errors import InvalidRow, LowRank
from freetops.forms import is_form
from freetops.near import is_near_paper, near_paper, nearest
from freetops.opposites import least_form, opposite
from freetops.readings import Reading, reads_zero
from freetops.rows import add_rows, height_of, is_row, level_of, product_of, subtract_rows, zero_row
from freetops.spans import Span, all_rows

SPAN = Span(5, (0, 0), [((0, 1), (3,)), ((2,), (0, 1))])
FAR = ((0, 0, 0, 0, 1), ())
LOW = [Span(5, (0, 0), [((0, 1), (0, 1))]), Span(5, (0,)), Span(2, (0, 0), [((), ())])]
NO_ROWS = [*WRONG, (), 0, ((1,),), ((1,), (1,), (1,)), ((1,), (5,)), ((1,), (1, 0)), [(1,), (1,)], ((1,), (True,)), (1, 1)]


def is_low(row, lifts, most):
    return not any(row) or height_of(row, lifts) <= most


def paper_by_definition(span, row, value, within):
    """Whether a value is a near paper, told in the words of the document."""
    if type(value) is not tuple or len(value) != 3 or type(value[0]) is not str:
        return False
    word, one, other = value
    if word == "row":
        if not is_row(span.prime, span.places, one) or not is_row(span.prime, span.places, other):
            return False
        rest = span.rest_of(row)
        return other == rest and one == subtract_rows(span.prime, row, rest) and is_low(rest, span.lifts, within)
    if word != "reading" or not is_form(span.prime, one) or not is_row(span.prime, span.places, other):
        return False
    if one != least_form(span) or not any(other):
        return False
    if not all(divides(span.prime, one, product_of(span.prime, other, own)) for own in span.key()):
        return False
    high = height_of(other, [-lift for lift in span.lifts])
    return high <= len(one) - 1 - within - 2 and Reading(span.prime, one, other)(row) != 0


class Nearest(Case):
    def test_drawn_rows(self):
        draw = drawing(301)
        for _ in range(80):
            span = drawn_span(draw)
            row = drawn_row(draw, span.prime, span.places, 6)
            near, rest = nearest(span, row)
            self.same([rest, near in span], [span.rest_of(row), True])
            self.same(add_rows(span.prime, near, rest), row)
            # no other row of the span is nearer
            if any(rest):
                other = subtract_rows(span.prime, row, row_in(draw, span))
                self.assertGreaterEqual(level_of(other, span.lifts), level_of(rest, span.lifts))

    def test_edges(self):
        self.same(nearest(span=SPAN, row=((), ())), (((), ()), ((), ())))
        self.same([nearest(SPAN, ((0, 1), (3,))), nearest(SPAN, FAR)],
                  [(((0, 1), (3,)), ((), ())), (((4, 0, 0, 0, 1), ()), ((1,), ()))])
        self.same(nearest(Span(5, (0, 7)), FAR), (((), ()), FAR))
        for value in NO_ROWS:
            self.raises(InvalidRow, {"at": 0}, nearest, SPAN, value)
            self.raises(InvalidRow, {"at": 0}, nearest, LOW[0], value)


class Papers(Case):
    def test_example(self):
        self.same(near_paper(SPAN, FAR, within=0), ("row", ((4, 0, 0, 0, 1), ()), ((1,), ())))
        found = near_paper(span=SPAN, row=FAR, within=-1)
        self.same([found[:2], is_near_paper(SPAN, FAR, found, within=-1), is_near_paper(SPAN, FAR, found, within=0)],
                  [("reading", (4, 0, 1)), True, False])

    def test_drawn_papers(self):
        draw = drawing(302)
        seen = {"row": 0, "reading": 0}
        for _ in range(60):
            span = full_span(draw)
            row = drawn_row(draw, span.prime, span.places, 7)
            rest = span.rest_of(row)
            heights = [-200, 200] + list(span.heights)
            if any(rest):
                heights = heights + [height_of(rest, span.lifts), height_of(rest, span.lifts) - 1]
            for within in heights:
                paper = near_paper(span, row, within=within)
                seen[paper[0]] += 1
                self.same([paper[0], len(paper), type(paper)],
                          ["row" if is_low(rest, span.lifts, within) else "reading", 3, tuple])
                self.same([paper_by_definition(span, row, paper, within), is_near_paper(span, row, paper, within=within)],
                          [True, True])
                if paper[0] == "reading":
                    reading = Reading(span.prime, paper[1], paper[2])
                    self.same([reads_zero(reading, span), reading(rest) == reading(row) != 0], [True, True])
        self.assertGreater(min(seen.values()), 60)

    def test_readings_read_0_at_all_near_rows(self):
        draw = drawing(303)
        for _ in range(30):
            span = full_span(draw, (2, 3), 3)
            row = drawn_row(draw, span.prime, span.places, 6)
            rest = span.rest_of(row)
            if not any(rest):
                continue
            within = height_of(rest, span.lifts) - 1
            paper = near_paper(span, row, within=within)
            reading = Reading(span.prime, *paper[1:])
            for _ in range(10):
                low = tuple(form[:max(within - lift + 1, 0)] for form, lift in
                            zip(drawn_row(draw, span.prime, span.places, 8), span.lifts))
                low = tuple(form if form and form[-1] else () for form in low)
                self.assertTrue(is_low(low, span.lifts, within))
                self.same(reading(add_rows(span.prime, low, row_in(draw, span))), 0)

    def test_rows_of_the_span_are_always_near(self):
        draw = drawing(304)
        for _ in range(20):
            span = full_span(draw)
            row = row_in(draw, span)
            for within in (-200, 0, 200):
                self.same(near_paper(span, row, within=within), ("row", row, zero_row(span.places)))

    def test_size_0_and_one_place(self):
        whole = all_rows(5, (0, 3))
        self.same(near_paper(whole, FAR, within=-200), ("row", FAR, ((), ())))
        one = Span(5, (2,), [((0, 0, 0, 1),)])
        row = ((1, 2, 3, 4),)
        self.same(near_paper(one, row, within=4), ("row", ((0, 0, 0, 4),), ((1, 2, 3),)))
        for within in (3, 2, 1, -200):
            paper = near_paper(one, row, within=within)
            self.same([paper[:2], paper_by_definition(one, row, paper, within)], [("reading", (0, 0, 0, 1)), True])

    def test_any_right_row_counts(self):
        within = -1
        around = opposite(SPAN)
        right = 0
        for numbers in itertools.product(range(5), repeat=2):
            for shift in range(3):
                row = zero_row(2)
                for number, own in zip(numbers, around.key()):
                    row = add_rows(5, row, tuple((0,) * shift + tuple(number * a % 5 for a in form) if number and form else ()
                                                 for form in own))
                value = ("reading", (4, 0, 1), row)
                found = is_near_paper(SPAN, FAR, value, within=within)
                self.same(found, paper_by_definition(SPAN, FAR, value, within))
                right += found
        self.assertGreater(right, 10)

    def test_bent_papers(self):
        draw = drawing(305)
        many = 0
        for at in range(14):
            span = full_span(draw, (2, 3, 5), 2, draw.randrange(1, 4))
            row = drawn_row(draw, span.prime, span.places, 4)
            for within in (-30, 0, 30):
                for value in bent(near_paper(span, row, within=within)):
                    found = is_near_paper(span, row, value, within=within)
                    self.same(found, paper_by_definition(span, row, value, within))
                    many += not found
        self.assertGreater(many, 1000)

    def test_wrong_papers(self):
        paper = ("row", ((4, 0, 0, 0, 1), ()), ((1,), ()))
        self.same(is_near_paper(span=SPAN, row=FAR, value=paper, within=0), True)
        for value in [*WRONG, (), 0, "row", ("row",), paper[:2], paper + ((),), list(paper), ("near", *paper[1:]),
                      ("row", FAR, ((), ())), ("row", ((4, 0, 0, 0, 1), ()), ((True,), ())), ("row", [], []),
                      ("row", ((3, 0, 0, 0, 1), ()), ((2,), ())), ("row", ((4, 0, False, 0, 1), ()), ((1,), ())),
                      ("reading", (4, 0, 1), ((1,), ())), ("reading", None, None), (None, None, None), (SPAN, SPAN, SPAN)]:
            self.same(is_near_paper(SPAN, FAR, value, within=0), False)
        found = near_paper(SPAN, FAR, within=-1)
        for value in [("reading", (4, 0, 1), ((), ())), ("reading", (3, 0, 2), found[2]), ("reading", (4, False, True), found[2]),
                      ("reading", (0, 4, 0, 1), found[2]), ("reading", [4, 0, 1], found[2]), ("reading", (), found[2]),
                      ("reading", (4, 0, 1), found[2][:1]), ("row", ((4, 0, 0, 0, 1), ()), ((1,), ()))]:
            self.same(is_near_paper(SPAN, FAR, value, within=-1), False)

    def test_errors_in_their_order(self):
        for value in NO_ROWS:
            self.raises(InvalidRow, {"at": 0}, near_paper, SPAN, value, within=0)
            self.raises(InvalidRow, {"at": 0}, near_paper, LOW[0], value, within=0)
        for span in LOW:
            self.raises(LowRank, {"rank": span.rank}, near_paper, span, zero_row(span.places), within=0)
        self.same(state_of(SPAN), (5, (0, 0), [((0, 1), (3,)), ((2,), (0, 1))]))


if __name__ == "__main__":
    unittest.main()
