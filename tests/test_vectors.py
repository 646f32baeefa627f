import itertools
import unittest

from cases import PRIMES, Case, drawing
from freetops.vectors import all_sums, combined_vectors, echelon, first_index, least_sum


def spanned(prime, length, vectors):
    """All combinations of vectors, tried one by one."""
    found = {(0,) * length}
    for vector in vectors:
        found = {tuple((a + factor * b) % prime for a, b in zip(one, vector)) for one in found for factor in range(prime)}
    return found


def drawn_vectors(draw, prime, length):
    vectors = [tuple(draw.randrange(prime) if draw.random() < 0.6 else 0 for _ in range(length))
               for _ in range(draw.randrange(5))]
    return vectors + vectors[:draw.randrange(2)]


class Vectors(Case):
    def test_first_indexes(self):
        self.same([first_index(()), first_index((0, 0)), first_index((3,)), first_index((0, 0, 1, 5))], [None, None, 0, 2])

    def test_echelons(self):
        draw = drawing(501)
        for _ in range(80):
            prime, length = draw.choice((2, 3, 5)), draw.randrange(1, 5)
            vectors = drawn_vectors(draw, prime, length)
            heads = echelon(prime, vectors)
            self.same(sorted(spanned(prime, length, heads)), sorted(spanned(prime, length, vectors)))
            self.assertEqual(prime ** len(heads), len(spanned(prime, length, vectors)))
            firsts = [first_index(head) for head in heads]
            self.same([firsts, [head[at] for head, at in zip(heads, firsts)]], [sorted(set(firsts)), [1] * len(heads)])

    def test_sums(self):
        draw = drawing(502)
        for _ in range(60):
            prime, length = draw.choice((2, 3, 5)), draw.randrange(1, 5)
            vectors = drawn_vectors(draw, prime, length)
            start = tuple(draw.randrange(prime) for _ in range(length))
            heads = echelon(prime, vectors)
            wanted = sorted(tuple((a + b) % prime for a, b in zip(start, one)) for one in spanned(prime, length, vectors))
            self.same([all_sums(prime, start, heads), least_sum(prime, start, heads)], [wanted, wanted[0]])

    def test_combinations(self):
        for prime in PRIMES:
            self.same(combined_vectors(prime, 2, (1, -1), [(1, 0), (0, 1), (1, 1)]), (1, prime - 1))
        self.same([combined_vectors(5, 2, (), [(1, 2)]), combined_vectors(5, 1, (3, 4), [(2,)])], [(0, 0), (1,)])
        self.same(combined_vectors(5, 0, (1,), [()]), ())

    def test_nothing(self):
        self.same([echelon(5, []), echelon(5, [(0, 0)]), all_sums(5, (1, 2), []), least_sum(5, (1, 2), [])],
                  [[], [], [(1, 2)], (1, 2)])
        self.assertEqual(len(all_sums(2, (0,) * 6, echelon(2, list(itertools.product((0, 1), repeat=6))))), 64)


if __name__ == "__main__":
    unittest.main()
