import unittest

from cases import PRIMES, Case, drawing, drawn_form, forms_below, power_of
from freetops.division import divides
from freetops.errors import SamePoint
from freetops.formpoints import digits_at, form_through, from_digits, multiplicity, roots, vanishing_at
from freetops.forms import add, form_of, multiply, scaled, value_at


class FormPoints(Case):
    def test_digits_by_their_definition(self):
        draw = drawing(11)
        for _ in range(150):
            prime = draw.choice(PRIMES)
            form = drawn_form(draw, prime, 9)
            point = draw.randrange(prime)
            digits = digits_at(prime, form, point)
            self.assertEqual(len(digits), len(form))
            total = ()
            for at, digit in enumerate(digits):
                part = scaled(prime, power_of(prime, form_of(prime, [-point, 1]), at), digit)
                total = add(prime, total, part)
            self.same(total, form)
            self.same(from_digits(prime, digits, point), form)
            self.same(digits_at(prime, from_digits(prime, form, point), point), form)

    def test_digits(self):
        self.same(digits_at(5, (1, 2, 1), 4), (0, 0, 1))
        self.same([digits_at(5, (), 3), digits_at(5, (2,), 3), digits_at(5, (1, 2, 3), 0)], [(), (2,), (1, 2, 3)])
        self.same([from_digits(5, (), 3), from_digits(5, (2,), 3), from_digits(5, (1, 2, 3), 0)],
                  [(), (2,), (1, 2, 3)])
        self.same(digits_at(prime=2, form=(0, 0, 1), point=1), (1, 0, 1))
        self.same(from_digits(prime=2, digits=(1, 0, 1), point=1), (0, 0, 1))

    def test_multiplicity_by_its_definition(self):
        draw = drawing(12)
        for _ in range(150):
            prime = draw.choice([2, 3, 5, 97])
            point = draw.randrange(prime)
            line = form_of(prime, [-point, 1])
            form = multiply(prime, power_of(prime, line, draw.randrange(4)), drawn_form(draw, prime, 4))
            if not form:
                self.assertIsNone(multiplicity(prime, form, point))
                continue
            most = max(e for e in range(9) if divides(prime, power_of(prime, line, e), form))
            self.same(multiplicity(prime, form, point), most)

    def test_multiplicity(self):
        self.same([multiplicity(5, (), 2), multiplicity(5, (3,), 2), multiplicity(5, (0, 0, 1), 0)], [None, 0, 2])
        self.same(multiplicity(prime=97, form=(1, 2, 1), point=96), 2)

    def test_roots(self):
        self.same([roots(5, ()), roots(5, (3,)), roots(5, (4, 0, 1)), roots(5, (0, 0, 1, 1))],
                  [[], [], [(1, 1), (4, 1)], [(0, 2), (4, 1)]])
        self.same(roots(prime=3, form=(1, 0, 1)), [])
        for form in forms_below(3, 4):
            found = dict(roots(3, form))
            for point in range(3):
                self.assertEqual(point in found, bool(form) and value_at(3, form, point) == 0)
        every = vanishing_at(97, list(range(97)))
        self.same(roots(97, every), [(point, 1) for point in range(97)])
        self.same(every, form_of(97, [0, -1] + [0] * 95 + [1]))

    def test_vanishing(self):
        self.same([vanishing_at(5, []), vanishing_at(5, [0]), vanishing_at(5, (2, 2)), vanishing_at(5, [1, 4])],
                  [(1,), (0, 1), (4, 1, 1), (4, 0, 1)])
        self.same(roots(7, vanishing_at(prime=7, points=[3, 1, 3, 6, 3])), [(1, 1), (3, 3), (6, 1)])

    def test_form_through(self):
        self.same([form_through(5, []), form_through(5, [(3, 2)]), form_through(5, ((3, 0),))], [(), (2,), ()])
        self.same(form_through(5, [(0, 1), (1, 2), (2, 0)]), (1, 0, 1))
        self.same(form_through(prime=7, pairs=[(0, 1), (3, 0), (6, 6)]), (1, 2))
        draw = drawing(13)
        for _ in range(100):
            prime = draw.choice(PRIMES)
            points = draw.sample(range(prime), draw.randrange(min(prime, 20) + 1))
            pairs = [(point, draw.randrange(prime)) for point in points]
            form = form_through(prime, pairs)
            self.assertLessEqual(len(form), len(pairs))
            self.assertEqual([value_at(prime, form, point) for point, _ in pairs], [value for _, value in pairs])

    def test_same_point(self):
        self.raises(SamePoint, {"point": 1}, form_through, 5, [(1, 2), (3, 3), (1, 2)])
        self.raises(SamePoint, {"point": 3}, form_through, 5, [(1, 2), (3, 3), (3, 4), (1, 0)])
        self.raises(SamePoint, {"point": 0}, form_through, prime=2, pairs=((0, 0), (0, 1)))
        pairs = [(point % 97, 1) for point in range(100)]
        self.raises(SamePoint, {"point": 0}, form_through, 97, pairs)


if __name__ == "__main__":
    unittest.main()
