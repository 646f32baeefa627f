import unittest

from cases import Case, drawing, row_in, rows_below, state_of, thin_span
from freetops.across import across
from freetops.meets import meet_of, sum_of
from freetops.rows import product_of
from freetops.spans import Span, all_rows
from freetops.tables import unit_table
from freetops.whole import closure, is_whole


class Across(Case):
    def test_example(self):
        self.same(across(Span(5, (0, 0), [((0, 1), (0, 1))])).key(), [((4,), (1,))])

    def test_drawn_products_are_zero(self):
        draw = drawing(261)
        for _ in range(80):
            span = thin_span(draw)
            found = across(span)
            self.same([found.prime, found.lifts], [span.prime, tuple(-lift for lift in span.lifts)])
            self.same([found.rank, is_whole(found)], [span.places - span.rank, True])
            for _ in range(3):
                one, other = row_in(draw, span), row_in(draw, found)
                self.same(product_of(span.prime, one, other), ())

    def test_all_such_rows_are_there(self):
        draw = drawing(262)
        for _ in range(40):
            span = thin_span(draw, (2,), 2)
            if span.places <= 2:
                found = across(span)
                for row in rows_below(2, span.places, 3):
                    self.same(row in found, not any(product_of(2, row, own) for own in span.key()))

    def test_across_twice_is_the_closure(self):
        draw = drawing(263)
        for _ in range(60):
            span = thin_span(draw)
            self.same(state_of(across(across(span))), state_of(closure(span)))
            self.same(state_of(across(closure(span))), state_of(across(span)))

    def test_heights_of_whole_spans(self):
        draw = drawing(264)
        for _ in range(60):
            span = closure(thin_span(draw))
            self.same(sum(span.heights), sum(across(span).heights) + sum(span.lifts))

    def test_the_across_of_a_sum_is_a_meet(self):
        draw = drawing(265)
        for _ in range(40):
            one = thin_span(draw)
            other = Span(one.prime, one.lifts, [tuple(reversed(row)) for row in one.key()])
            self.same(state_of(across(sum_of(one, other))), state_of(meet_of(across(one), across(other))))

    def test_all_rows_and_no_rows(self):
        none = Span(5, (2, -3, 0))
        self.same([across(none).key(), across(none).lifts, across(none).heights],
                  [[((1,), (), ()), ((), (), (1,)), ((), (1,), ())], (-2, 3, 0), (-2, 0, 3)])
        self.same(state_of(across(span=all_rows(5, (2, -3, 0)))), (5, (-2, 3, 0), []))
        self.same([across(Span(2, (7,))).key(), across(Span(2, (7,), [((0, 1),)])).key()], [unit_table(1), []])

    def test_a_full_span_that_is_not_whole(self):
        self.same(across(Span(5, (0, 0), [((0, 1), (3,)), ((2,), (0, 1))])).rank, 0)


if __name__ == "__main__":
    unittest.main()
