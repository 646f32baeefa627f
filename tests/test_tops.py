import itertools
import unittest

from cases import PRIMES, Case, drawing, drawn_form, drawn_lifts, drawn_row
from freetops.numbers import is_residue
from freetops.rows import add_rows, combined, height_of, lead_of, row_times, top_of, zero_row
from freetops.tops import are_apart, are_free_topped, top_relation


def sums_of_tops(prime, rows, lifts, numbers):
    tops = [top_of(row, lifts) for row in rows]
    return [sum(c * top[place] for c, top in zip(numbers, tops)) % prime for place in range(len(lifts))]


class Tops(Case):
    def test_apart(self):
        rows = [((0, 1), (3,)), ((2,), (0, 1))]
        self.same([are_apart(rows, (0, 0)), are_apart(rows + rows[:1], (0, 0)), are_apart([], (0, 0))],
                  [True, False, True])
        self.same([are_apart([((), ())], (0, 0)), are_apart([rows[0], ((), ())], (0, 0))], [False, False])
        self.same([are_apart([((0, 1), (1,)), ((1,), (1,))], (0, 0)), are_apart([((0, 1), (1,)), ((1,), (1,))], [0, 1])],
                  [True, False])
        self.same(are_apart(rows=tuple(rows), lifts=[0, 0]), True)

    def test_free_topped(self):
        self.same([are_free_topped(5, [], (0,)), are_free_topped(5, [((),)], (0,)),
                   are_free_topped(5, [((1,),), ((),)], (0,)), are_free_topped(5, [((1,),)], (0,)),
                   are_free_topped(5, [((1,),), ((1,),)], (0,))], [True, False, False, True, False])
        # the leads are equal, but the tops (1, 1) and (1, 2) are free
        rows = [((0, 1), (0, 1)), ((1,), (2,))]
        self.same([are_apart(rows, (0, 0)), are_free_topped(5, rows, (0, 0))], [False, True])
        self.same(are_free_topped(2, rows[:1] + [((1,), (1, 1))], (0, 0)), True)
        self.same(are_free_topped(prime=5, rows=(((1,),), ((2, 1),)), lifts=[3]), False)

    def test_relations(self):
        self.same([top_relation(5, [], (0,)), top_relation(5, [((3,),)], (0,))], [None, None])
        found = top_relation(prime=5, rows=[((1, 2),), ((3,),)], lifts=[0])
        self.assertEqual((found[0] * 2 + found[1] * 3) % 5, 0)
        self.same(found, top_relation(5, [((1, 2),), ((3,),)], [0]))

    def test_against_all_tuples_of_residues(self):
        draw = drawing(51)
        for _ in range(200):
            prime = draw.choice([2, 3])
            places = draw.randrange(1, 5)
            lifts = tuple(draw.randrange(-1, 2) for _ in range(places))
            rows = [drawn_row(draw, prime, places, 2) for _ in range(draw.randrange(5))]
            free = not any(row == zero_row(places) for row in rows)
            rows_left = [row for row in rows if any(row)]
            related = [numbers for numbers in itertools.product(range(prime), repeat=len(rows_left))
                       if any(numbers) and not any(sums_of_tops(prime, rows_left, lifts, numbers))]
            found = top_relation(prime, rows_left, lifts)
            self.assertEqual(found in related, bool(related))
            self.assertEqual(found is None, not related)
            self.same(are_free_topped(prime, rows, lifts), free and not related)
            leads = [lead_of(row, lifts) for row in rows]
            self.same(are_apart(rows, lifts), free and len(set(leads)) == len(leads))

    def test_drawn_relations_add_up_to_zero(self):
        draw = drawing(52)
        for _ in range(150):
            prime = draw.choice(PRIMES)
            places = draw.randrange(1, 7)
            lifts = drawn_lifts(draw, places)
            rows = [drawn_row(draw, prime, places, 3) for _ in range(draw.randrange(9))]
            rows = [row for row in rows if any(row)]
            found = top_relation(prime, rows, lifts)
            if found is not None:
                self.assertIs(type(found), tuple)
                self.assertEqual(len(found), len(rows))
                self.assertTrue(any(found) and all(is_residue(prime, number) for number in found))
                self.assertFalse(any(sums_of_tops(prime, rows, lifts, found)))
            elif len(rows) > places:
                self.fail("more rows than places have a relation")

    def test_tops_never_cancel_in_free_topped_rows(self):
        draw = drawing(53)
        seen = 0
        while seen < 60:
            prime = draw.choice([2, 3, 97])
            lifts = drawn_lifts(draw, 3)
            rows = [drawn_row(draw, prime, 3, 3) for _ in range(draw.randrange(1, 4))]
            forms = [drawn_form(draw, prime, 3) for _ in rows]
            if not are_free_topped(prime, rows, lifts) or not any(forms):
                continue
            seen += 1
            reached = [len(form) - 1 + height_of(row, lifts) if form else None for form, row in zip(forms, rows)]
            best = max(height for height in reached if height is not None)
            total = combined(prime, forms, rows)
            self.assertEqual(height_of(total, lifts), best)
            if are_apart(rows, lifts):
                leads = [lead_of(row, lifts) for row, height in zip(rows, reached) if height == best]
                self.assertEqual(lead_of(total, lifts), max(leads))
        self.assertEqual(add_rows(2, row_times(2, ((1,),), (1,)), ((1,),)), ((),))


if __name__ == "__main__":
    unittest.main()
