import inspect
import unittest

from cases import WRONG, Case, drawing, drawn_row, drawn_span, row_in, rows_below, state_of
from freetops.counting import free_number, number_of, row_at, rows_up_to
from freetops.errors import InvalidNumber, InvalidRow, NotIn, TooMany
from freetops.forms import form_of
from freetops.rows import combined, height_of, zero_row
from freetops.spans import Span, all_rows

SPAN = Span(5, (0, 0), [((0, 1), (3,)), ((2,), (0, 1))])
STAIR = Span(3, (0, 0), [((1,), ()), ((), (0, 0, 1))])
NONE = Span(5, (0, 3))


class FreeNumbers(Case):
    def test_by_the_heights(self):
        self.same([free_number(SPAN, within=t) for t in (-200, 0, 1, 2, 200)], [0, 0, 2, 4, 400])
        self.same([free_number(STAIR, within=t) for t in (-1, 0, 1, 2, 3)], [0, 1, 2, 4, 6])
        self.same([free_number(NONE, within=200), free_number(span=all_rows(2, (-20,) * 6), within=200)], [0, 6 * 221])

    def test_against_all_rows(self):
        draw = drawing(271)
        for _ in range(40):
            lifts = tuple(draw.randrange(-2, 3) for _ in range(2))
            span = Span(2, lifts, [drawn_row(draw, 2, 2, 2) for _ in range(2)])
            most = min(lifts) + 2
            low = [row for row in rows_below(2, 2, 3) if row == zero_row(2) or height_of(row, lifts) <= most]
            low = [row for row in low if row in span]
            self.same(len(low), 2 ** free_number(span, within=most))
            self.assertEqual(sorted(low), sorted(rows_up_to(span, within=most)))


class Numbers(Case):
    def test_figures_in_their_order(self):
        # height 0 has three figures up to 2, height 2 has one
        self.same([row_at(STAIR, n, within=2) for n in (0, 1, 3, 9, 27, 80)],
                  [((), ()), ((1,), ()), ((0, 1), ()), ((0, 0, 1), ()), ((), (0, 0, 1)), ((2, 2, 2), (0, 0, 2))])
        self.same([number_of(STAIR, ((2, 2, 2), (0, 0, 2)), within=2), number_of(span=STAIR, row=((0, 1), ()), within=1)],
                  [80, 3])
        self.same(row_at(span=STAIR, number=2, within=0), ((2,), ()))

    def test_drawn_numbers(self):
        draw = drawing(272)
        for _ in range(80):
            span = drawn_span(draw)
            if span.rank == 0:
                continue
            within = draw.choice(span.heights) + draw.randrange(-1, 5)
            free = free_number(span, within=within)
            number = draw.randrange(span.prime ** free)
            row = row_at(span, number, within=within)
            self.same([row in span, number_of(span, row, within=within)], [True, number])
            if row != zero_row(span.places):
                self.assertLessEqual(height_of(row, span.lifts), within)
            figures, rest = [], number
            while rest:
                figures.append(rest % span.prime)
                rest //= span.prime
            forms = []
            for height in span.heights:
                many = max(within - height + 1, 0)
                forms.append(form_of(span.prime, figures[:many]))
                figures = figures[many:]
            self.same(row, combined(span.prime, forms, span.key()))

    def test_numbers_of_rows_of_the_span(self):
        draw = drawing(273)
        for _ in range(60):
            span = drawn_span(draw)
            row = row_in(draw, span)
            height = height_of(row, span.lifts)
            if height is None:
                continue
            for within in (height, height + 3):
                self.same(row_at(span, number_of(span, row, within=within), within=within), row)
            self.raises(InvalidNumber, {"value": height - 1}, number_of, span, row, within=height - 1)

    def test_numbers_of_any_length(self):
        span = all_rows(97, (0, -20, 20))
        free = free_number(span, within=200)
        self.same(free, 201 + 221 + 181)
        most = 97 ** free - 1
        row = row_at(span, most, within=200)
        self.same(row, ((96,) * 201, (96,) * 221, (96,) * 181))
        self.same(number_of(span, row, within=200), most)
        self.raises(InvalidNumber, {"value": most + 1}, row_at, span, most + 1, within=200)
        number = drawing(274).randrange(most)
        self.same(number_of(span, row_at(span, number, within=200), within=200), number)

    def test_heights_far_above_the_rows(self):
        span = Span(5, (-10 ** 9, 0), [((1,), ())])
        self.same([free_number(span, within=0), row_at(span, 7, within=0), number_of(span, ((2, 1), ()), within=0)],
                  [10 ** 9 + 1, ((2, 1), ()), 7])
        self.raises(TooMany, {"free": 10 ** 9 + 1}, next, rows_up_to(span, within=0))

    def test_heights_below_all_rows(self):
        for span in (SPAN, NONE, STAIR):
            self.same([row_at(span, 0, within=-200), number_of(span, ((), ()), within=-200), list(rows_up_to(span, within=-200))],
                      [((), ()), 0, [((), ())]])
            self.raises(InvalidNumber, {"value": 1}, row_at, span, 1, within=-200)
        self.raises(InvalidNumber, {"value": 0}, number_of, SPAN, ((0, 1), (3,)), within=0)
        self.same([row_at(NONE, 0, within=200), number_of(NONE, ((), ()), within=0)], [((), ()), 0])

    def test_wrong_numbers(self):
        for value in [*WRONG, (), -1, 25, 10 ** 5000, -10 ** 5000]:
            self.raises(InvalidNumber, {"value": value}, row_at, SPAN, value, within=1)
        self.same(row_at(SPAN, 24, within=1), combined(5, ((4,), (4,)), SPAN.key()))

    def test_wrong_rows(self):
        for value in [*WRONG, (), 0, ((1,),), ((1,), (1,), ()), ((1,), (5,)), ((1,), (1, 0)), [(1,), ()], ((1,), (True,))]:
            self.raises(InvalidRow, {"at": 0}, number_of, SPAN, value, within=-200)
        self.raises(NotIn, {"rest": ((1,), ())}, number_of, SPAN, ((0, 0, 0, 0, 1), ()), within=-200)
        self.raises(NotIn, {"rest": ((1,), ())}, number_of, NONE, ((1,), ()), within=200)


class Listing(Case):
    def test_all_rows_by_their_numbers(self):
        draw = drawing(275)
        self.assertTrue(inspect.isgeneratorfunction(rows_up_to))
        for _ in range(25):
            span = drawn_span(draw, (2, 3))
            within = min(span.heights, default=0) + 2
            if free_number(span, within=within) <= 7:
                found = list(rows_up_to(span=span, within=within))
                self.same(found, [row_at(span, n, within=within) for n in range(len(found))])
                self.same([len(found), len(set(found))], [span.prime ** free_number(span, within=within)] * 2)

    def test_4096_rows_and_more(self):
        one = all_rows(2, (0,))
        self.same(sum(1 for _ in rows_up_to(one, within=11)), 4096)
        self.raises(TooMany, {"free": 13}, next, rows_up_to(one, within=12))
        self.raises(TooMany, {"free": 201}, next, rows_up_to(one, within=200))
        large = all_rows(97, (0, 0))
        self.same(len(list(rows_up_to(all_rows(97, (0,)), within=0))), 97)
        self.raises(TooMany, {"free": 2}, next, rows_up_to(large, within=0))
        self.same(len(list(rows_up_to(all_rows(61, (0, 0)), within=0))), 3721)
        self.raises(TooMany, {"free": 2}, next, rows_up_to(all_rows(67, (0, 0)), within=0))

    def test_within_stands_behind_the_star(self):
        for call in (free_number, rows_up_to):
            with self.assertRaises(TypeError):
                call(SPAN, 1)

    def test_spans_do_not_change(self):
        before = state_of(SPAN)
        list(rows_up_to(SPAN, within=1))
        self.same(state_of(SPAN), before)


if __name__ == "__main__":
    unittest.main()
