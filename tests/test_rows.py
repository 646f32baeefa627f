import unittest

from cases import PRIMES, WRONG, Case, drawing, drawn_form, drawn_lifts, drawn_row
from freetops.forms import add, is_form, multiply
from freetops.rows import (add_rows, combined, height_of, is_lifts, is_row, lead_of, level_of, product_of,
                           row_times, subtract_rows, top_of, unit_row, zero_row)


class Rows(Case):
    def test_is_row(self):
        self.same([is_row(5, 1, ((),)), is_row(5, 2, ((4,), (0, 1))), is_row(97, 6, ((96,),) * 6)], [True] * 3)
        self.same([is_row(5, 1, ((), ())), is_row(5, 2, ((),)), is_row(5, 1, ((5,),)), is_row(5, 1, ((0,),)),
                   is_row(5, 1, ()), is_row(5, 0, ()), is_row(5, 1, ((True,),)), is_row(5, 1, ([1],)),
                   is_row(5, 1, [(1,)]), is_row(5, 2, ((1,), 1)), is_row(5, 2, ((1,), None))], [False] * 11)
        for value in WRONG:
            self.same(is_row(5, 1, value), False)
            self.same(is_row(5, 2, value), False)
        self.same(is_row(prime=5, places=1, value=((1,),)), True)

    def test_is_lifts(self):
        self.same([is_lifts(1, (0,)), is_lifts(2, (-20, 20)), is_lifts(1, (10 ** 5000,))], [True] * 3)
        self.same([is_lifts(2, (0,)), is_lifts(1, (0, 0)), is_lifts(1, [0]), is_lifts(1, (True,)),
                   is_lifts(1, ((0,),)), is_lifts(2, (0, None)), is_lifts(1, ()), is_lifts(1, 0)], [False] * 8)
        for value in WRONG:
            self.same(is_lifts(1, value), False)
        self.same(is_lifts(places=2, value=(3, 3)), True)

    def test_simple_rows(self):
        self.same([zero_row(1), zero_row(places=3)], [((),), ((), (), ())])
        self.same([unit_row(1, 0), unit_row(3, 1), unit_row(places=2, place=0)],
                  [((1,),), ((), (1,), ()), ((1,), ())])

    def test_sums_and_products_go_place_by_place(self):
        draw = drawing(31)
        for _ in range(100):
            prime = draw.choice(PRIMES)
            places = draw.randrange(1, 7)
            one = drawn_row(draw, prime, places, 6)
            other = drawn_row(draw, prime, places, 6)
            form = drawn_form(draw, prime, 3)
            self.same(add_rows(prime, one, other), tuple(add(prime, a, b) for a, b in zip(one, other)))
            self.same(add_rows(prime, subtract_rows(prime, one, other), other), one)
            self.same(row_times(prime, one, form), tuple(multiply(prime, form, a) for a in one))
            total = ()
            for a, b in zip(one, other):
                total = add(prime, total, multiply(prime, a, b))
            self.same(product_of(prime, one, other), total)
            self.assertTrue(is_form(prime, total))
        self.same(add_rows(prime=5, one=((1,), (2,)), other=((4,), ())), ((), (2,)))
        self.same(subtract_rows(prime=5, one=((1,), (2,)), other=((1,), (3,))), ((), (4,)))
        self.same(row_times(prime=5, row=((1,), (2,)), form=(0, 3)), ((0, 3), (0, 1)))
        self.same(product_of(prime=5, one=((1,), (2,)), other=((3,), (0, 1))), (3, 2))

    def test_combined(self):
        rows = [((1,), (0, 1)), ((), (2,))]
        self.same(combined(5, ((0, 1), (3,)), rows), ((0, 1), (1, 0, 1)))
        self.same(combined(5, [(), ()], tuple(rows)), ((), ()))
        self.same(combined(prime=5, forms=[(2,)], rows=[((1,),)]), ((2,),))

    def test_levels_of_the_examples(self):
        self.same([(height_of(row, (0, 0)), top_of(row, (0, 0)), lead_of(row, (0, 0)), level_of(row, (0, 0)))
                   for row in (((0, 1), (3,)), ((2,), (0, 1)), ((0, 3), (1, 2)), ((), (4,)))],
                  [(1, (1, 0), 0, (1, 0)), (1, (0, 1), 1, (1, 1)), (1, (3, 2), 1, (1, 1)), (0, (0, 4), 1, (0, 1))])
        self.same(level_of(((4, 0, 1), ()), (0, 2)), (2, 0))
        self.same(level_of(((0, 2), (1,)), [0, 2]), (2, 1))
        self.same(top_of(((0, 2), (1,)), [0, 2]), (0, 1))

    def test_levels_by_their_definition(self):
        draw = drawing(32)
        for _ in range(300):
            prime = draw.choice(PRIMES)
            places = draw.randrange(1, 7)
            lifts = tuple(draw.randrange(-3, 4) for _ in range(places))
            row = drawn_row(draw, prime, places, 4)
            if not any(row):
                continue
            height = max(len(form) - 1 + lift for form, lift in zip(row, lifts) if form)
            top = tuple(dict(enumerate(form)).get(height - lift, 0) for form, lift in zip(row, lifts))
            lead = max(place for place in range(places) if top[place])
            self.same((height_of(row, lifts), top_of(row, lifts), lead_of(row, lifts)), (height, top, lead))
            self.same(level_of(row=row, lifts=list(lifts)), (height, lead))

    def test_the_zero_row_has_no_level(self):
        for places in (1, 6):
            row = zero_row(places)
            lifts = drawn_lifts(drawing(33), places)
            self.same([height_of(row, lifts), top_of(row, lifts), lead_of(row, lifts), level_of(row, lifts)], [None] * 4)
        self.same([height_of(row=((),), lifts=(3,)), top_of(row=((),), lifts=[3]), lead_of(row=((),), lifts=(3,))],
                  [None] * 3)

    def test_negative_and_far_lifts(self):
        self.same(level_of(((1,), (0, 0, 1)), (-3, -20)), (-3, 0))
        self.same(level_of(((1,), (1,)), (-999999999, 999999999)), (999999999, 1))
        self.same(top_of(((0, 1), (1,), ()), (-1, 0, 5)), (1, 1, 0))


if __name__ == "__main__":
    unittest.main()
