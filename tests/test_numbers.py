import unittest

from cases import PRIMES, WRONG, Case
from freetops.numbers import inverse, is_name, is_number, is_prime, is_residue


class Numbers(Case):
    def test_numbers(self):
        self.same([is_number(n, -2, 3) for n in range(-4, 6)],
                  [False, False, True, True, True, True, True, True, False, False])
        self.same(is_number(10 ** 5000, 0, 10 ** 5000), True)
        self.same(is_number(value=1, least=1, most=1), True)
        self.same(is_number(1, 2, 0), False)

    def test_other_values_are_no_numbers(self):
        for value in [*WRONG, (), (1,), 1.0]:
            self.same(is_number(value, -9, 9), False)
            self.same(is_residue(5, value), False)
            self.same(is_prime(value), False)

    def test_primes(self):
        self.assertEqual([n for n in range(-100, 1000) if is_prime(n)], PRIMES)
        self.same([is_prime(2), is_prime(97), is_prime(value=101), is_prime(10 ** 5000), is_prime(1)],
                  [True, True, False, False, False])

    def test_residues(self):
        for prime in (2, 5, 97):
            self.assertEqual([n for n in range(-100, 200) if is_residue(prime, n)], list(range(prime)))
        self.same(is_residue(prime=5, value=4), True)
        self.same(is_residue(2, True), False)

    def test_names(self):
        for name in ("a", "z", "abcdef", "zzzzzz", "span"):
            self.same(is_name(name), True)
        for name in ("", "abcdefg", "A", "aB", "a1", "a b", " a", "a\n", "a_", "-", None, 1, True, ("a",), ["a"],
                     "\u00e9", "\u0430", b"a"):
            self.same(is_name(name), False)
        self.same(is_name(value="abc"), True)

    def test_inverses(self):
        for prime in PRIMES:
            for residue in range(1, prime):
                found = inverse(prime, residue)
                self.assertTrue(0 < found < prime)
                self.assertEqual(found * residue % prime, 1)
        self.same(inverse(prime=97, residue=2), 49)


if __name__ == "__main__":
    unittest.main()
