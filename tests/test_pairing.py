import unittest

from cases import Case, drawing, drawn_lifts, drawn_rows, drawn_span, row_in, state_of
from freetops.errors import Unlike
from freetops.forms import multiply
from freetops.pairing import pairing
from freetops.rows import subtract_rows
from freetops.spans import Span, all_rows

SPAN = Span(5, (0, 0), [((0, 1), (3,)), ((2,), (0, 1))])


def paired_row(prime, one, other):
    return tuple(multiply(prime, first, second) for first in one for second in other)


class Pairings(Case):
    def test_drawn_pairings_multiply_out(self):
        draw = drawing(321)
        for _ in range(40):
            one = drawn_span(draw, places=draw.randrange(1, 5))
            many = draw.randrange(1, 4)
            rows = drawn_rows(draw, one.prime, many, draw.randrange(4), 3)
            other = Span(one.prime, drawn_lifts(draw, many), rows)
            found = pairing(one, other)
            self.same([found.prime, found.places, found.rank], [one.prime, one.places * many, one.rank * other.rank])
            self.same(found.lifts, tuple(one.lifts[j] + other.lifts[l] for j in range(one.places) for l in range(many)))
            self.same(found.heights, tuple(sorted(first + second for first in one.heights for second in other.heights)))
            for _ in range(3):
                self.assertIn(paired_row(one.prime, row_in(draw, one), row_in(draw, other)), found)

    def test_it_is_the_span_of_the_products_alone(self):
        draw = drawing(322)
        for _ in range(20):
            one = drawn_span(draw, (2, 97), 2)
            other = drawn_span(draw, (one.prime,), 2)
            rows = [paired_row(one.prime, row_in(draw, one, 1), row_in(draw, other, 1)) for _ in range(12)]
            rows = rows + [paired_row(one.prime, first, second) for first in one.key() for second in other.key()]
            found = pairing(one=one, other=other)
            self.same(state_of(found), state_of(Span(one.prime, found.lifts, rows)))

    def test_places_in_their_order(self):
        found = pairing(Span(5, (1, 2), [((1,), (0, 1))]), Span(5, (0, 10, 20), [((2,), (0, 3), (4,))]))
        self.same([found.lifts, found.rank], [(1, 11, 21, 2, 12, 22), 1])
        row = found.key()[0]
        self.same(subtract_rows(5, row, tuple(multiply(5, (row[2][0] * 4 % 5,), form) for form in
                                              ((2,), (0, 3), (4,), (0, 2), (0, 0, 3), (0, 4)))), ((),) * 6)

    def test_edges(self):
        one = Span(5, (7,), [((1,),)])
        self.same(state_of(pairing(SPAN, one)), (5, (7, 7), SPAN.key()))
        self.same([pairing(SPAN, Span(5, (0,))).rank, pairing(Span(5, (0, 0, 0)), SPAN).places], [0, 6])
        self.same(state_of(pairing(all_rows(2, (0, 1)), all_rows(2, (3, 5)))), state_of(all_rows(2, (3, 5, 4, 6))))
        self.same(pairing(SPAN, SPAN).heights, (2, 2, 2, 2))

    def test_greatest_documented_places(self):
        draw = drawing(323)
        one, other = (Span(97, (0,) * 6, drawn_rows(draw, 97, 6, 6, 3)) for _ in range(2))
        self.same(pairing(one, other).rank, one.rank * other.rank)

    def test_unlike(self):
        for other in (Span(7, (0, 0)), all_rows(2, (0,))):
            self.raises(Unlike, {}, pairing, SPAN, other)
            self.raises(Unlike, {}, pairing, other, SPAN)


if __name__ == "__main__":
    unittest.main()
