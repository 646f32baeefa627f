import itertools
import unittest

from cases import PRIMES, WRONG, Case, drawing, drawn_form
from freetops.forms import multiply
from freetops.tables import determinant
from freetops.twoinverse import inverse_twos
from freetops.twosided import (add_two, determinant_two, is_downward, is_two_sided, is_upward, multiply_two,
                               multiply_twos, two_sided)

ZERO = (0, ())
ONE = (0, (1,))


def drawn_two(draw, prime, most=10, degree=3):
    return two_sided(drawn_form(draw, prime, degree), draw.randrange(-most, most + 1))


def terms(two):
    """The dict of the powers and their coefficients."""
    return {two[0] + at: residue for at, residue in enumerate(two[1]) if residue}


def from_terms(prime, numbers):
    numbers = {power: number % prime for power, number in numbers.items() if number % prime}
    if not numbers:
        return ZERO
    low, high = min(numbers), max(numbers)
    return low, tuple(numbers.get(power, 0) for power in range(low, high + 1))


def sum_of(prime, twos):
    total = {}
    for two in twos:
        for power, residue in terms(two).items():
            total[power] = total.get(power, 0) + residue
    return from_terms(prime, total)


def product_of_two(prime, one, other):
    total = {}
    for (a, x), (b, y) in itertools.product(terms(one).items(), terms(other).items()):
        total[a + b] = total.get(a + b, 0) + x * y
    return from_terms(prime, total)


def drawn_table(draw, prime, places, most=10, degree=2):
    return [tuple(drawn_two(draw, prime, most, degree) for _ in range(places)) for _ in range(places)]


def unit_twos(places):
    return [tuple(ONE if at == place else ZERO for at in range(places)) for place in range(places)]


def determinant_by_definition(prime, table):
    """The sum over all permutations."""
    found = []
    for order in itertools.permutations(range(len(table))):
        sign = (-1) ** sum(order[i] > order[j] for i, j in itertools.combinations(range(len(order)), 2))
        product = (0, (sign % prime,))
        for row, at in zip(table, order):
            product = product_of_two(prime, product, row[at])
        found.append(product)
    return sum_of(prime, found)


class TwoSided(Case):
    def test_which_values_are_two_sided_forms(self):
        for value in (ZERO, ONE, (-1, (1,)), (7, (4, 0, 3)), (-10, (2, 0, 0, 1)), (10 ** 30, (1,)), (-10 ** 5000, (1,))):
            self.same(is_two_sided(5, value), True)
        for value in [*WRONG, 0, (), (0,), (0, (), 0), [0, ()], (1, ()), (-1, ()), (0, (0, 1)), (0, (0,)), (0, (1, 0)), (0, (5,)),
                      (0, (-1,)), (0, [1]), (True, (1,)), (False, ()), (0, (True,)), (None, (1,)), ("0", (1,)), (0, 1), ((1,), 0),
                      (0, None), (0, "1"), ((0, (1,)),), (0, (1, (1,)))]:
            self.same(is_two_sided(prime=5, value=value), False)

    def test_from_forms(self):
        self.same([two_sided((1,)), two_sided(()), two_sided((), 5), two_sided((0, 0, 3)), two_sided(form=(0, 1, 2), low=-4)],
                  [ONE, ZERO, ZERO, (2, (3,)), (-3, (1, 2))])
        draw = drawing(621)
        for _ in range(60):
            prime = draw.choice(PRIMES)
            form, low = drawn_form(draw, prime, 6), draw.randrange(-10, 11)
            found = two_sided(form, low)
            self.assertTrue(is_two_sided(prime, found))
            self.same(terms(found), {low + at: residue for at, residue in enumerate(form) if residue})

    def test_sums_and_products(self):
        draw = drawing(622)
        for _ in range(200):
            prime = draw.choice(PRIMES)
            one, other = drawn_two(draw, prime), drawn_two(draw, prime)
            if draw.random() < 0.2:
                other = (one[0], tuple(-residue % prime for residue in one[1]))
            if draw.random() < 0.2:
                other = add_two(prime, other, one)
            self.same(add_two(prime=prime, one=one, other=other), sum_of(prime, [one, other]))
            self.same(multiply_two(prime=prime, one=one, other=other), product_of_two(prime, one, other))
        self.same([add_two(5, (-1, (1,)), (1, (2,))), add_two(5, (-1, (1, 2)), (-1, (4, 1))), add_two(5, ONE, (0, (4,)))],
                  [(-1, (1, 0, 2)), (0, (3,)), ZERO])
        self.same([multiply_two(5, (-1, (1,)), (1, (3,))), multiply_two(5, ZERO, (7, (1,))), multiply_two(5, (-7, (1,)), ZERO)],
                  [(0, (3,)), ZERO, ZERO])
        # the zero does not stand for a power
        self.same([add_two(5, ZERO, (10 ** 30, (1,))), add_two(5, (-10 ** 30, (2,)), ZERO)], [(10 ** 30, (1,)), (-10 ** 30, (2,))])

    def test_upward_and_downward(self):
        for two, up, down in ((ZERO, True, True), (ONE, True, True), ((1, (1,)), True, False), ((-1, (1,)), False, True),
                              ((0, (1, 1)), True, False), ((-1, (1, 1)), False, True), ((-1, (1, 0, 1)), False, False),
                              ((-3, (1, 2, 3, 4)), False, True), ((-3, (1, 2, 3, 4, 4)), False, False)):
            self.same([is_upward(two=two), is_downward(two=two)], [up, down])


class Tables(Case):
    def test_products(self):
        draw = drawing(623)
        for _ in range(30):
            prime, places = draw.choice(PRIMES), draw.randrange(1, 5)
            one, other = drawn_table(draw, prime, places), drawn_table(draw, prime, places)
            wanted = [tuple(sum_of(prime, [product_of_two(prime, row[k], other[k][at]) for k in range(places)])
                            for at in range(places)) for row in one]
            self.same(multiply_twos(prime=prime, one=one, other=other), wanted)
            self.same(multiply_twos(prime, tuple(one), tuple(other)), wanted)
            self.same([multiply_twos(prime, one, unit_twos(places)), multiply_twos(prime, unit_twos(places), one)], [one, one])

    def test_determinants(self):
        draw = drawing(624)
        seen = {0: 0, 1: 0, 2: 0}
        for _ in range(120):
            prime, places = draw.choice((2, 3, 97)), draw.randrange(1, 5)
            table = drawn_table(draw, prime, places, 10, 1)
            if draw.random() < 0.3:
                table = [tuple(two if at >= place else ZERO for at, two in enumerate(row)) for place, row in enumerate(table)]
            found = determinant_two(prime=prime, table=table)
            self.same(found, determinant_by_definition(prime, table))
            self.assertTrue(is_two_sided(prime, found))
            seen[min(len(terms(found)), 2)] += 1
            self.same(determinant_two(prime, tuple(table)), found)
        self.assertGreater(min(seen.values()), 10)
        self.same([determinant_two(5, [((-3, (2,)),)]), determinant_two(5, [(ZERO,)]), determinant_two(5, [(ZERO, ZERO), (ONE, ONE)])],
                  [(-3, (2,)), ZERO, ZERO])

    def test_determinants_of_tables_of_forms(self):
        draw = drawing(625)
        for _ in range(20):
            forms = [tuple(drawn_form(draw, 7, 3) for _ in range(3)) for _ in range(3)]
            table = [tuple(two_sided(form) for form in row) for row in forms]
            self.same(determinant_two(7, table), two_sided(determinant(7, forms)))

    def test_inverses(self):
        draw = drawing(626)
        for _ in range(60):
            prime, places = draw.choice(PRIMES), draw.randrange(1, 5)
            table = [tuple((draw.randrange(-10, 11), (draw.randrange(1, prime),)) if at == place else
                           drawn_two(draw, prime, 5) if at > place else ZERO for at in range(places)) for place in range(places)]
            draw.shuffle(table)
            table = multiply_twos(prime, [row[::-1] for row in table], table)
            found = inverse_twos(prime, table)
            self.same([multiply_twos(prime, table, found), multiply_twos(prime, found, table)], [unit_twos(places)] * 2)
        self.same(inverse_twos(5, [((-3, (2,)),)]), [((3, (3,)),)])
        self.same(multiply(5, (2,), (3,)), (1,))


if __name__ == "__main__":
    unittest.main()
