import unittest

from cases import PRIMES, Case, drawing, drawn_form, forms_below
from freetops.division import divided, divides, divisor_of, divisor_with, power_remainder
from freetops.errors import ZeroForm
from freetops.forms import add, is_form, multiply


def made(prime, multipliers, forms):
    total = ()
    for multiplier, form in zip(multipliers, forms):
        total = add(prime, total, multiply(prime, multiplier, form))
    return total


class Division(Case):
    def test_divided(self):
        self.same(divided(5, (4, 0, 1), (1, 1)), ((4, 1), ()))
        self.same(divided(5, (1, 0, 0, 2), (1, 3)), ((1, 2, 4), ()))
        self.same(divided(5, (2, 0, 0, 2), (1, 3)), ((1, 2, 4), (1,)))
        self.same(divided(5, (1,), (0, 1)), ((), (1,)))
        self.same(divided(5, (), (0, 1)), ((), ()))
        self.same(divided(5, (3, 1), (2,)), ((4, 3), ()))
        self.same(divided(prime=2, form=(1, 0, 1), by=(1, 1)), ((1, 1), ()))

    def test_quotient_and_remainder_multiply_out(self):
        draw = drawing(3)
        for _ in range(300):
            prime = draw.choice(PRIMES)
            form = drawn_form(draw, prime, 12)
            by = drawn_form(draw, prime, 6) or (1,)
            quotient, remainder = divided(prime, form, by)
            self.assertTrue(is_form(prime, quotient) and is_form(prime, remainder))
            self.assertLess(len(remainder), len(by))
            self.assertEqual(add(prime, multiply(prime, quotient, by), remainder), form)

    def test_zero_form(self):
        self.raises(ZeroForm, {}, divided, 5, (1, 2), ())
        self.raises(ZeroForm, {}, divided, 5, (), ())
        self.raises(ZeroForm, {}, power_remainder, 5, (1, 2), 3, ())
        self.raises(ZeroForm, {}, power_remainder, prime=5, form=(), number=0, by=())

    def test_divides(self):
        small = forms_below(3, 3)
        for by in small:
            multiples = {multiply(3, by, form) for form in small}
            for form in small:
                self.same(divides(3, by, form), form in multiples)
        self.same([divides(5, (), ()), divides(5, (), (1,)), divides(5, (2,), ()), divides(5, (2,), (1, 1))],
                  [True, False, True, True])
        self.same(divides(prime=5, by=(1, 1), form=(4, 0, 1)), True)

    def test_common_divisor(self):
        self.same([divisor_of(5, []), divisor_of(5, [()]), divisor_of(5, [(), ()]), divisor_of(5, [(), (3,)])],
                  [(), (), (), (1,)])
        self.same(divisor_of(5, ((0, 2), (0, 0, 3))), (0, 1))
        self.same(divisor_of(prime=5, forms=[(4, 0, 1), (3, 3)]), (1, 1))
        self.same(divisor_with(5, []), ((), []))
        divisor, multipliers = divisor_with(5, [(), ()])
        self.same((divisor, len(multipliers)), ((), 2))

    def test_common_divisor_against_all_divisors(self):
        draw = drawing(4)
        monic = [form for form in forms_below(3, 4) if form[-1:] == (1,)]
        for _ in range(60):
            factor = drawn_form(draw, 3, 1)
            forms = [multiply(3, factor, drawn_form(draw, 3, 2)) for _ in range(draw.randrange(1, 5))]
            common = [by for by in monic if all(divides(3, by, form) for form in forms)]
            found = divisor_of(3, forms)
            if any(forms):
                self.assertIn(found, common)
                self.assertEqual(len(found), max(len(by) for by in common))
            else:
                self.assertEqual(found, ())

    def test_multipliers_make_the_divisor(self):
        draw = drawing(5)
        for _ in range(200):
            prime = draw.choice(PRIMES)
            factor = drawn_form(draw, prime, 3)
            many = draw.randrange(0, 7)
            forms = [multiply(prime, factor, drawn_form(draw, prime, 5)) for _ in range(many)]
            divisor, multipliers = divisor_with(prime, forms)
            self.same(divisor, divisor_of(prime, forms))
            self.assertIs(type(multipliers), list)
            self.assertEqual(len(multipliers), len(forms))
            self.assertTrue(all(is_form(prime, multiplier) for multiplier in multipliers))
            self.assertEqual(made(prime, multipliers, forms), divisor)
        divisor, multipliers = divisor_with(prime=5, forms=((0, 2), (), (1, 1)))
        self.assertEqual((divisor, made(5, multipliers, [(0, 2), (), (1, 1)])), ((1,), (1,)))
        self.assertEqual(divisor_with(5, [(0, 3), (2, 1)]), divisor_with(5, [(0, 3), (2, 1)]))

    def test_hundred_forms(self):
        draw = drawing(6)
        forms = [drawn_form(draw, 97, 40) for _ in range(100)]
        divisor, multipliers = divisor_with(97, forms)
        self.assertEqual(made(97, multipliers, forms), divisor)
        self.assertEqual(divisor, divisor_of(97, forms))

    def test_powers(self):
        draw = drawing(7)
        for _ in range(60):
            prime = draw.choice(PRIMES)
            form = drawn_form(draw, prime, 4)
            by = drawn_form(draw, prime, 4) or (1, 1)
            power = (1,)
            for number in range(9):
                self.same(power_remainder(prime, form, number, by), divided(prime, power, by)[1])
                power = multiply(prime, power, form)

    def test_edges_of_powers(self):
        self.same([power_remainder(5, (), 0, (0, 1)), power_remainder(5, (), 3, (0, 1))], [(1,), ()])
        self.same([power_remainder(5, (0, 1), 0, (3,)), power_remainder(5, (0, 1), 10 ** 30, (3,))], [(), ()])
        self.same(power_remainder(prime=5, form=(0, 1), number=10 ** 30, by=(3, 1)), (pow(2, 10 ** 30, 5),))
        # the powers of x modulo x ** 2 + 1 repeat after four
        self.same([power_remainder(7, (0, 1), 10 ** 30 - k, (1, 0, 1)) for k in range(4)],
                  [(1,), (0, 6), (6,), (0, 1)])

    def test_a_power_in_two_parts(self):
        draw = drawing(8)
        by = drawn_form(draw, 97, 12) + (1,)
        one = draw.randrange(10 ** 30)
        parts = [power_remainder(97, (3, 1), number, by) for number in (one, 10 ** 30 - one, 10 ** 30)]
        self.assertEqual(divided(97, multiply(97, parts[0], parts[1]), by)[1], parts[2])

    def test_arguments_stay(self):
        forms = [(0, 1), (1, 1)]
        divisor_of(5, forms)
        divisor_with(5, forms)
        self.same(forms, [(0, 1), (1, 1)])


if __name__ == "__main__":
    unittest.main()
