import unittest

from cases import PRIMES, WRONG, Case, drawing, drawn_form, drawn_lifts, drawn_span, row_in, rows_below, state_of
from freetops.denominators import denominator_row, fraction_span
from freetops.division import divides
from freetops.errors import InvalidLifts, ZeroForm
from freetops.forms import multiply, subtract
from freetops.rows import add_rows, height_of
from freetops.spans import Span, all_rows


def in_by_definition(prime, forms, by, row):
    """The last form is q, and each other one is q times its form minus a multiple of `by`."""
    return all(divides(prime, by, subtract(prime, multiply(prime, row[-1], form), own)) for form, own in zip(forms, row))


class FractionSpans(Case):
    def test_drawn_fractions(self):
        draw = drawing(331)
        for _ in range(80):
            prime = draw.choice(PRIMES)
            forms = [drawn_form(draw, prime, 5) for _ in range(draw.randrange(1, 6))]
            by = drawn_form(draw, prime, 5) or (1, 1)
            lifts = drawn_lifts(draw, len(forms) + 1)
            found = fraction_span(prime, forms, by, lifts)
            self.same([found.prime, found.lifts, found.rank], [prime, lifts, len(forms) + 1])
            self.same(found.size, len(forms) * (len(by) - 1))
            self.assertTrue(in_by_definition(prime, forms, by, row_in(draw, found)))
            q = drawn_form(draw, prime, 4)
            multiples = [multiply(prime, by, drawn_form(draw, prime, 3)) for _ in forms]
            row = tuple(subtract(prime, multiply(prime, q, form), other) for form, other in zip(forms, multiples)) + (q,)
            self.assertIn(row, found)

    def test_all_such_rows_are_there(self):
        draw = drawing(332)
        for _ in range(15):
            forms = [drawn_form(draw, 2, 3)]
            by = drawn_form(draw, 2, 3) or (1, 1)
            found = fraction_span(2, tuple(forms), by, [0, 1])
            for row in rows_below(2, 2, 3):
                self.same(row in found, in_by_definition(2, forms, by, row))

    def test_forms_that_are_multiples_of_the_divisor(self):
        # q times such a form is a multiple itself, so q can be 1 beside zero forms
        for form in ((), (3, 1), multiply(5, (3, 1), (2, 0, 4))):
            found = fraction_span(5, [form], (3, 1), (0, 0))
            self.same([found.key(), denominator_row(found)], [[((), (1,)), ((3, 1), ())], ((), (1,))])
        found = fraction_span(prime=5, forms=[(3, 1), (1,)], by=(3, 1), lifts=[0, 0, 0])
        self.same([(((), (1,), (1,)) in found), found.size], [True, 2])

    def test_a_constant_divisor_leaves_all_rows(self):
        self.same(state_of(fraction_span(5, [(1, 2), (3,)], (2,), (0, 1, 2))), state_of(all_rows(5, (0, 1, 2))))

    def test_one_form_and_five(self):
        self.same(fraction_span(97, [(5,)], (0, 0, 1), (0, 0)).heights, (0, 2))
        found = fraction_span(97, [(k, 1, 0, 0, k) for k in range(1, 6)], (0,) * 40 + (1,), (0,) * 5 + (35,))
        self.same([found.places, found.size, sum(found.heights)], [6, 200, 235])

    def test_errors_in_their_order(self):
        self.raises(ZeroForm, {}, fraction_span, 5, [(1,)], (), None)
        for value in (None, True, 3, "00", "", [], (), (0,), (0, 0, 0), [None]):
            self.raises(InvalidLifts, {"at": -1}, fraction_span, 5, [(1,)], (0, 1), value)
        for value in [*WRONG, (), (0,)]:
            self.raises(InvalidLifts, {"at": 1}, fraction_span, 5, [(1,)], (0, 1), (0, value))
            self.raises(InvalidLifts, {"at": 0}, fraction_span, 5, [(1,)], (0, 1), [value, None])

    def test_arguments_are_not_changed(self):
        forms, lifts = [(1,), (2, 1)], [0, 0, 1]
        fraction_span(5, forms, (0, 1), lifts)
        self.same([forms, lifts], [[(1,), (2, 1)], [0, 0, 1]])


class DenominatorRows(Case):
    def test_drawn_rows(self):
        draw = drawing(333)
        for _ in range(60):
            span = drawn_span(draw)
            found = denominator_row(span)
            wanted = [row for row in span.key() if row[-1] != ()]
            self.same(found, wanted[0] if wanted else None)
            if found is not None:
                row = add_rows(span.prime, found, row_in(draw, span))
                if row[-1]:
                    self.assertGreaterEqual(height_of(row, span.lifts), height_of(found, span.lifts))

    def test_near_fractions(self):
        # 1 / (1 + x) and 1 / (1 + x) ** 2 up to x ** 20 have the denominator (1 + x) ** 2
        powers = [tuple((-1) ** n * 1 % 7 for n in range(20)), tuple((-1) ** n * (n + 1) % 7 for n in range(20))]
        powers = [form[:len(form) - 1] if form[-1] == 0 else form for form in powers]
        span = fraction_span(7, powers, (0,) * 20 + (1,), (0, 0, 0))
        self.same(denominator_row(span), ((1, 1), (1,), (1, 2, 1)))

    def test_edges(self):
        self.same([denominator_row(Span(5, (0, 0))), denominator_row(Span(5, (0, 0), [((1,), ())]))], [None, None])
        self.same([denominator_row(span=all_rows(5, (0, 3, 1))), denominator_row(Span(5, (0,), [((0, 2),)]))],
                  [((), (), (1,)), ((0, 1),)])


if __name__ == "__main__":
    unittest.main()
