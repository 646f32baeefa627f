import unittest

from cases import WRONG, Case, drawing, drawn_form, forms_below, full_span, power_of, row_in, rows_below, state_of
from freetops.conditions import cut
from freetops.counting import free_number
from freetops.division import divides
from freetops.errors import InvalidForm, LowRank, NotIn, ZeroForm
from freetops.forms import multiply, raised
from freetops.meets import meet_of, sum_of
from freetops.opposites import fits, least_form, opposite
from freetops.rows import product_of, row_times, unit_row
from freetops.spans import Span, all_rows
from freetops.tables import determinant

SPAN = Span(5, (0, 0), [((0, 1), (3,)), ((2,), (0, 1))])
WHOLE = all_rows(5, (2, -1))
LOW = [Span(5, (0, 0), [((0, 1), (0, 1))]), Span(5, (0,)), Span(2, (0, 0), [((), ())])]


def fits_by_definition(span, form):
    units = [row_times(span.prime, unit_row(span.places, place), form) for place in range(span.places)]
    return form != () and all(row in span for row in units)


class LeastForms(Case):
    def test_example(self):
        self.same([least_form(SPAN), opposite(SPAN).key()], [(4, 0, 1), [((0, 1), (3,)), ((2,), (0, 1))]])

    def test_drawn_forms_are_least(self):
        draw = drawing(281)
        for _ in range(40):
            span = full_span(draw, (2, 3), 2)
            least = least_form(span)
            self.assertEqual(least[-1], 1)
            self.assertTrue(fits_by_definition(span, least))
            for form in forms_below(span.prime, min(5, len(least) + 1)):
                # the forms that fit are just the multiples of the least one
                self.same(fits(span, form), form != () and divides(span.prime, least, form))
                self.same(fits(span, form), fits_by_definition(span, form))

    def test_drawn_spans_of_all_primes(self):
        draw = drawing(282)
        for _ in range(40):
            span = full_span(draw)
            least = least_form(span)
            whole = determinant(span.prime, span.key())
            self.same([fits(span, least), fits(span=span, form=whole), divides(span.prime, least, whole)], [True] * 3)

    def test_forms_that_are_less_than_the_determinant(self):
        twice = Span(5, (0, 0), [((2, 1), ()), ((), (2, 1))])
        self.same([least_form(twice), least_form(Span(5, (0, 0), [((2, 1), ()), ((), (0, 1))])),
                   least_form(Span(5, (0, 0), [((4, 4, 1), ()), ((), (2, 1))])), least_form(Span(5, (0,), [((4, 3),)]))],
                  [(2, 1), (0, 2, 1), (4, 4, 1), (3, 1)])
        # in a cut by deep conditions the forms are high
        self.same(least_form(cut(all_rows(97, (0, 0)), (3, ((1,), (1,)), 5))), power_of(97, (94, 1), 5))

    def test_size_0(self):
        self.same([least_form(span=WHOLE), fits(WHOLE, (3,)), fits(WHOLE, (0, 1)), fits(WHOLE, ())], [(1,), True, True, False])

    def test_fits_for_any_value(self):
        for value in [*WRONG, (), 0, (5,), (1, 0), [1], ((1,),), (4, 0, True), (4, False, 1), [4, 0, 1], (9, 0, 1)]:
            self.same(fits(SPAN, value), False)
        self.same([fits(SPAN, (4, 0, 1)), fits(SPAN, (1, 0, 4)), fits(SPAN, (0, 4, 0, 1)), fits(SPAN, (4, 1)), fits(SPAN, (1,))],
                  [True, True, True, False, False])

    def test_low_rank_comes_first(self):
        for span in LOW:
            worth = {"rank": span.rank}
            self.raises(LowRank, worth, least_form, span)
            for value in (None, (), (1,), "x"):
                self.raises(LowRank, worth, fits, span, value)
                self.raises(LowRank, worth, opposite, span, by=value)


class Opposites(Case):
    def test_drawn_opposites_multiply_out(self):
        draw = drawing(283)
        for _ in range(50):
            span = full_span(draw)
            least = least_form(span)
            form = multiply(span.prime, least, drawn_form(draw, span.prime, 2) or (1,))
            found = opposite(span, by=form)
            self.same([found.prime, found.lifts], [span.prime, tuple(-lift for lift in span.lifts)])
            self.same(sorted(found.heights), sorted(len(form) - 1 - height for height in span.heights))
            for _ in range(3):
                product = product_of(span.prime, row_in(draw, span), row_in(draw, found))
                self.assertTrue(divides(span.prime, form, product))
            self.same([fits(found, form), state_of(opposite(found, by=form))], [True, state_of(span)])
            self.same(state_of(opposite(span)), state_of(opposite(span, by=least)))

    def test_all_such_rows_are_there(self):
        draw = drawing(284)
        for _ in range(20):
            span = full_span(draw, (2,), 2, 2)
            form = least_form(span)
            found = opposite(span=span, by=None)
            for row in rows_below(2, 2, 3):
                wanted = all(divides(2, form, product_of(2, row, own)) for own in span.key())
                self.same(row in found, wanted)

    def test_sums_and_meets(self):
        draw = drawing(285)
        for _ in range(25):
            one = full_span(draw, (2, 3, 97), 3)
            other = Span(one.prime, one.lifts, [tuple(reversed(row)) for row in one.key()])
            form = least_form(meet_of(one, other))
            self.same([fits(span, form) for span in (one, other, sum_of(one, other))], [True] * 3)
            both = opposite(one, by=form), opposite(other, by=form)
            self.same(state_of(opposite(sum_of(one, other), by=form)), state_of(meet_of(*both)))
            self.same(state_of(opposite(meet_of(one, other), by=form)), state_of(sum_of(*both)))

    def test_free_numbers(self):
        draw = drawing(286)
        for _ in range(20):
            span = full_span(draw)
            form = least_form(span)
            found = opposite(span)
            for t in (-200, -3, 0, 1, 5, 200):
                wanted = sum(t - height + 1 for height in span.heights)
                self.same(free_number(span, within=t) - free_number(found, within=len(form) - 1 - t - 2), wanted)

    def test_constant_forms_and_size_0(self):
        self.same([state_of(opposite(WHOLE)), state_of(opposite(WHOLE, by=(3,)))],
                  [state_of(all_rows(5, (-2, 1)))] * 2)
        self.same(state_of(opposite(WHOLE, by=(0, 1))), state_of(Span(5, (-2, 1), [((0, 1), ()), ((), (0, 1))])))

    def test_a_form_and_a_constant_times_it(self):
        self.same(state_of(opposite(SPAN, by=(4, 0, 1))), state_of(opposite(SPAN, by=(3, 0, 2))))
        self.same(opposite(SPAN, by=raised((4, 0, 1), 3)).heights, (4, 4))

    def test_forms_that_do_not_fit(self):
        self.raises(NotIn, {"rest": ((1,), ())}, opposite, SPAN, by=(1,))
        self.raises(NotIn, {"rest": ((), (2,))}, opposite, SPAN, by=(0, 1))
        # the first place fits, the second one does not
        span = Span(5, (0, 0), [((0, 1), ()), ((), (0, 0, 1))])
        self.raises(NotIn, {"rest": ((), (0, 3))}, opposite, span, by=(0, 3))
        self.raises(NotIn, {"rest": ((1,), ())}, opposite, span, by=(1, 0, 1))

    def test_wrong_forms(self):
        for value in [*WRONG[1:], 0, (5,), (1, 0), [4, 0, 1], (4, 0, True), ((1,),)]:
            self.raises(InvalidForm, {"at": 0}, opposite, SPAN, by=value)
            self.raises(InvalidForm, {"at": 0}, opposite, WHOLE, by=value)
        self.raises(ZeroForm, {}, opposite, SPAN, by=())
        self.raises(ZeroForm, {}, opposite, WHOLE, by=())
        with self.assertRaises(TypeError):
            opposite(SPAN, (4, 0, 1))
        self.same(state_of(SPAN), (5, (0, 0), [((0, 1), (3,)), ((2,), (0, 1))]))


if __name__ == "__main__":
    unittest.main()
