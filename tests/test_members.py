import unittest

from cases import PRIMES, Case, drawing, drawn_lifts, drawn_rows
from freetops.errors import Unlike
from freetops.members import are_alike, told_apart
from freetops.rows import unit_row
from freetops.spans import Span, all_rows

SPAN = Span(5, (0, 0), [((0, 1), (3,)), ((2,), (0, 1))])


class Members(Case):
    def test_alike(self):
        self.same([are_alike(SPAN, Span(5, [0, 0])), are_alike(SPAN, SPAN)], [True, True])
        self.same([are_alike(SPAN, Span(7, (0, 0))), are_alike(SPAN, Span(5, (0, 1))), are_alike(SPAN, Span(5, (0,))),
                   are_alike(one=Span(5, (0, 0, 0)), other=SPAN)], [False] * 4)
        for value in (None, True, 5, "", (), [], SPAN.key(), SPAN.text()):
            self.same([are_alike(SPAN, value), are_alike(value, SPAN)], [False, False])
            self.raises(Unlike, {}, told_apart, SPAN, value)

    def test_equal_spans_are_not_told_apart(self):
        self.assertIsNone(told_apart(SPAN, Span(5, (0, 0), [((2,), (0, 1)), ((0, 1), (3,))])))
        self.assertIsNone(told_apart(one=Span(2, (0,)), other=Span(2, (0,))))

    def test_told_apart(self):
        self.same(told_apart(all_rows(5, (0, 0)), SPAN), (0, unit_row(2, 0), unit_row(2, 0)))
        self.same(told_apart(SPAN, all_rows(5, (0, 0))), (1, unit_row(2, 0), unit_row(2, 0)))
        self.same(told_apart(SPAN, Span(5, (0, 0))), (0, ((0, 1), (3,)), ((0, 1), (3,))))
        self.same(told_apart(Span(5, (0, 0)), SPAN), (1, ((0, 1), (3,)), ((0, 1), (3,))))
        one = Span(5, (0, 0), [((0, 1), ())])
        other = Span(5, (0, 0), [((1,), (1,))])
        # neither is in the other one, so it is a row of the first that tells
        self.same(told_apart(one, other), (0, ((0, 1), ()), ((0, 1), ())))
        self.same(told_apart(other, one), (0, ((1,), (1,)), ((1,), (1,))))

    def test_told_apart_by_its_definition(self):
        draw = drawing(101)
        for _ in range(80):
            prime = draw.choice(PRIMES)
            lifts = drawn_lifts(draw, 3)
            rows = drawn_rows(draw, prime, 3, draw.randrange(5), 3)
            one = Span(prime, lifts, rows)
            other = Span(prime, lifts, rows[:2] + drawn_rows(draw, prime, 3, draw.randrange(2), 3))
            found = told_apart(one, other)
            wanted = [(0, row, other.rest_of(row)) for row in one.key() if row not in other]
            wanted = wanted + [(1, row, one.rest_of(row)) for row in other.key() if row not in one]
            self.same(found, wanted[0] if wanted else None)
            self.same(found is None, one == other)

    def test_unlike(self):
        for other in (Span(7, (0, 0)), Span(5, (0, 1)), Span(5, (0,)), Span(5, (0, 0, 0))):
            self.raises(Unlike, {}, told_apart, SPAN, other)
            self.raises(Unlike, {}, told_apart, one=other, other=SPAN)


if __name__ == "__main__":
    unittest.main()
