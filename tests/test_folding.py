import unittest

from cases import PRIMES, WRONG, Case, all_combinations, drawing, drawn_lifts, drawn_rows, rows_below
from freetops.errors import InvalidLifts, InvalidRow, NotPrime
from freetops.folding import Folding, base_of
from freetops.rows import combined, is_row, level_of, zero_row
from freetops.spans import Span
from freetops.tops import are_apart


class Foldings(Case):
    def check(self, prime, lifts, rows):
        folding = Folding(prime, lifts, rows)
        base = folding.base()
        places = len(lifts)
        self.assertTrue(are_apart(base, lifts))
        levels = [level_of(row, lifts) for row in base]
        self.assertEqual(levels, sorted(levels))
        self.assertEqual(len(folding.ways()), len(base))
        self.assertEqual(len(folding.backs()), len(rows))
        self.assertEqual(len(folding.nulls()), len(rows) - len(base))
        for row, way in zip(base, folding.ways()):
            self.assertTrue(is_row(prime, len(rows), way))
            self.assertEqual(combined(prime, way, rows), row)
        for row, back in zip(rows, folding.backs()):
            self.assertIs(type(back), tuple)
            self.assertEqual(len(back), len(base))
            self.assertEqual(combined(prime, back, base) if base else zero_row(places), row)
        for null in folding.nulls():
            self.assertTrue(is_row(prime, len(rows), null))
            self.assertEqual(combined(prime, null, rows), zero_row(places))
        if folding.nulls():
            # rows that are as many as the rank of their span combine in one way only
            span = Span(prime, (0,) * len(rows), folding.nulls())
            self.assertEqual(span.rank, len(folding.nulls()))
        return folding

    def test_no_rows(self):
        folding = self.check(5, (0, 0), [])
        self.same([folding.base(), folding.ways(), folding.backs(), folding.nulls()], [[], [], [], []])
        self.same(base_of(5, (0,), ()), [])

    def test_zero_rows_and_repeated_rows(self):
        folding = self.check(5, (0,), [((),), ((),)])
        self.same([folding.base(), folding.ways(), folding.backs()], [[], [], [(), ()]])
        self.check(5, (0, 0), [((1,), (2,)), ((), ()), ((1,), (2,))])
        self.check(2, (3,), [((0, 1),), ((0, 1),), ((1, 1),)])
        self.check(97, (-1,), [((96, 3),)])

    def test_attributes(self):
        folding = Folding(prime=5, lifts=[0, 1], rows=(((1,), ()),))
        self.same((folding.prime, folding.lifts), (5, (0, 1)))

    def test_drawn_rows_multiply_out(self):
        draw = drawing(61)
        for _ in range(120):
            prime = draw.choice(PRIMES)
            places = draw.randrange(1, 7)
            rows = drawn_rows(draw, prime, places, draw.randrange(9), 5)
            lifts = drawn_lifts(draw, places)
            folding = self.check(prime, lifts, rows)
            span = Span(prime, lifts, rows)
            for base in (folding.base(), base_of(prime, lifts, rows)):
                self.assertTrue(are_apart(base, lifts))
                self.assertEqual([level_of(row, lifts) for row in base], list(zip(span.heights, span.leads())))
                self.assertEqual(Span(prime, lifts, base), span)

    def test_every_relation_is_a_combination_of_the_nulls(self):
        draw = drawing(62)
        for _ in range(30):
            rows = drawn_rows(draw, 2, 2, 3, 2)
            nulls = Span(2, (0, 0, 0), Folding(2, (0, 0), rows).nulls())
            for forms in rows_below(2, 3, 2):
                self.assertEqual(combined(2, forms, rows) == zero_row(2), forms in nulls)

    def test_base_makes_all_rows(self):
        rows = [((1, 0, 1), (0, 1)), ((0, 1), (1, 1))]
        base = base_of(prime=2, lifts=[0, 1], rows=tuple(rows))
        many = all_combinations(2, base, 4)
        self.assertTrue(all_combinations(2, rows, 2) <= many)

    def test_greatest_documented_rows(self):
        draw = drawing(63)
        rows = drawn_rows(draw, 97, 6, 8, 40)
        self.check(97, (0, 20, -20, 3, 7, 11), rows)

    def test_errors_in_their_order(self):
        for make in (Folding, base_of):
            self.raises(NotPrime, {"value": 6}, make, 6, (), None)
            self.raises(NotPrime, {"value": True}, make, True, (0,), [])
            self.raises(InvalidLifts, {"at": -1}, make, 5, (), None)
            self.raises(InvalidLifts, {"at": 1}, make, 5, (0, True, None), None)
            self.raises(InvalidRow, {"at": -1}, make, 5, (0,), None)
            self.raises(InvalidRow, {"at": 1}, make, 5, (0,), [((1,),), ((1,), ()), 3])
            for value in WRONG:
                self.raises(InvalidRow, {"at": 0}, make, 5, (0, 0), [value])

    def test_lists_are_new_and_copied(self):
        rows = [((1,), ()), ((), ())]
        lifts = [0, 0]
        folding = Folding(5, lifts, rows)
        before = [list(told) for told in (folding.base(), folding.ways(), folding.backs(), folding.nulls())]
        rows.append(((), (1,)))
        lifts[0] = 7
        for told in (folding.base(), folding.ways(), folding.backs(), folding.nulls(), base_of(5, (0, 0), rows)):
            told.append(1)
        self.same([folding.base(), folding.ways(), folding.backs(), folding.nulls()], before)
        self.same(folding.lifts, (0, 0))

    def test_equal_calls_have_equal_results(self):
        rows = drawn_rows(drawing(64), 5, 3, 6, 4)
        one = Folding(5, (0, 1, 2), rows)
        other = Folding(5, [0, 1, 2], tuple(rows))
        self.same([one.base(), one.ways(), one.backs(), one.nulls()],
                  [other.base(), other.ways(), other.backs(), other.nulls()])


if __name__ == "__main__":
    unittest.main()
