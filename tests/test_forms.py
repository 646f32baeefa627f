import unittest

from cases import PRIMES, WRONG, Case, drawing, drawn_form
from freetops.forms import (add, degree_of, form_of, is_form, monic_of, multiply, raised, scaled, subtract,
                            value_at)
from freetops.numbers import is_residue


def plain(prime, numbers):
    """A form by the words of the document, made another way."""
    found = tuple(number % prime for number in numbers)
    while found[-1:] == (0,):
        found = found[:-1]
    return found


class Forms(Case):
    def test_is_form(self):
        for value in ((), (1,), (4, 0, 1), (0, 0, 4)):
            self.same(is_form(5, value), True)
        for value in [*WRONG, (0,), (1, 0), (5,), (-1,), (1, 5), (1, True), (True, 1), (1, (1,)), ((1,),), ((),),
                      [4, 0, 1], 0, 3, (0, 0, 0), (1, None, 1)]:
            self.same(is_form(5, value), False)
        self.same([is_form(2, (1,)), is_form(2, (2,)), is_form(97, (96,)), is_form(97, (97,))],
                  [True, False, True, False])
        self.same(is_form(prime=5, value=(0, 1)), True)

    def test_form_of(self):
        self.same(form_of(5, [4, 0, 1]), (4, 0, 1))
        self.same(form_of(5, (9, -5, -4, 0, 5, -10)), (4, 0, 1))
        self.same(form_of(5, []), ())
        self.same(form_of(5, [0, 5, -5]), ())
        self.same(form_of(2, [999999999, -999999999]), (1, 1))
        self.same(form_of(97, [97, 96, 98]), (0, 96, 1))
        self.same(form_of(prime=3, numbers=[-1]), (2,))
        numbers = [0, 7, 0]
        form_of(5, numbers)
        self.same(numbers, [0, 7, 0])

    def test_degrees(self):
        self.same([degree_of(()), degree_of((3,)), degree_of((0, 0, 1))], [None, 0, 2])
        self.same(degree_of(form=(1, 1)), 1)

    def test_sums_and_products_of_drawn_forms(self):
        draw = drawing(1)
        for _ in range(300):
            prime = draw.choice(PRIMES)
            one = drawn_form(draw, prime, 8)
            other = drawn_form(draw, prime, 5)
            long_one = list(one) + [0] * (20 - len(one))
            long_other = list(other) + [0] * (20 - len(other))
            self.same(add(prime, one, other), plain(prime, [a + b for a, b in zip(long_one, long_other)]))
            self.same(subtract(prime, one, other), plain(prime, [a - b for a, b in zip(long_one, long_other)]))
            product = [sum(long_one[i] * long_other[k - i] for i in range(k + 1)) for k in range(20)]
            self.same(multiply(prime, one, other), plain(prime, product))
            number = draw.randrange(-300, 300)
            self.same(scaled(prime, one, number), plain(prime, [number * a for a in one]))
            point = draw.randrange(prime)
            self.same(value_at(prime, one, point), sum(a * point ** k for k, a in enumerate(one)) % prime)
            monic = monic_of(prime, one)
            self.assertEqual(monic[-1:], (1,) if one else ())
            self.assertEqual(scaled(prime, monic, one[-1] if one else 1), one)

    def test_tops_that_cancel(self):
        self.same(add(5, (1, 2, 3), (0, 3, 2)), (1,))
        self.same(add(5, (1, 2), (4, 3)), ())
        self.same(subtract(2, (1, 1), (1, 1)), ())
        self.same(subtract(5, (), (1, 2)), (4, 3))
        self.same(add(5, (), ()), ())

    def test_edges(self):
        self.same([multiply(5, (), (1, 2)), multiply(5, (3,), ()), multiply(5, (3,), (2,))], [(), (), (1,)])
        self.same([scaled(5, (1, 2), 0), scaled(5, (1, 2), 5), scaled(5, (1, 2), -1), scaled(5, (), 3)],
                  [(), (), (4, 3), ()])
        self.same([raised((), 3), raised((1, 2), 0), raised((1, 2), 2)], [(), (1, 2), (0, 0, 1, 2)])
        self.same([monic_of(5, ()), monic_of(5, (3,)), monic_of(5, (1, 3))], [(), (1,), (2, 1)])
        self.same([value_at(5, (), 3), value_at(5, (2,), 0), value_at(97, (1,) * 41, 96)], [0, 2, 1])

    def test_by_name(self):
        self.same(add(prime=5, one=(1,), other=(0, 1)), (1, 1))
        self.same(subtract(prime=5, one=(1,), other=(0, 1)), (1, 4))
        self.same(multiply(prime=5, one=(2,), other=(0, 1)), (0, 2))
        self.same(scaled(prime=5, form=(2,), number=4), (3,))
        self.same(raised(form=(2,), by=1), (0, 2))
        self.same(monic_of(prime=5, form=(2,)), (1,))
        self.same(value_at(prime=5, form=(2, 1), point=4), 1)

    def test_residues_only(self):
        draw = drawing(2)
        for _ in range(50):
            product = multiply(97, drawn_form(draw, 97, 40), drawn_form(draw, 97, 40))
            self.assertTrue(all(is_residue(97, residue) for residue in product))
            self.assertTrue(is_form(97, product))


if __name__ == "__main__":
    unittest.main()
