import itertools
import unittest

from cases import PRIMES, Case, drawing, drawn_form, drawn_row
from freetops.forms import add, multiply, scaled
from freetops.rows import row_times
from freetops.tables import determinant, multiply_tables, turned_table, unit_table


def by_permutations(prime, table):
    total = ()
    for order in itertools.permutations(range(len(table))):
        swaps = sum(a > b for a, b in itertools.combinations(order, 2))
        part = (1,)
        for row, place in zip(table, order):
            part = multiply(prime, part, row[place])
        total = add(prime, total, scaled(prime, part, (-1) ** swaps))
    return total


class Tables(Case):
    def test_unit(self):
        self.same([unit_table(0), unit_table(1), unit_table(places=2)], [[], [((1,),)], [((1,), ()), ((), (1,))]])

    def test_products(self):
        one = [((1,), (0, 1)), ((2,), ())]
        other = [((3,), ()), ((1,), (4,))]
        self.same(multiply_tables(5, one, other), [((3, 1), (0, 4)), ((1,), ())])
        self.same(multiply_tables(prime=5, one=tuple(one), other=tuple(other)), multiply_tables(5, one, other))
        self.same(multiply_tables(5, [], other), [])
        self.same(multiply_tables(5, [((1,),)], [((2,), (3,), ())]), [((2,), (3,), ())])
        self.same(multiply_tables(5, one, unit_table(2)), one)
        self.same(multiply_tables(5, unit_table(2), one), one)

    def test_products_may_be_put_together_in_any_way(self):
        draw = drawing(41)
        for _ in range(30):
            prime = draw.choice(PRIMES)
            a, b, c, d = (draw.randrange(1, 5) for _ in range(4))
            tables = [[drawn_row(draw, prime, n, 3) for _ in range(m)] for m, n in ((a, b), (b, c), (c, d))]
            left = multiply_tables(prime, multiply_tables(prime, tables[0], tables[1]), tables[2])
            right = multiply_tables(prime, tables[0], multiply_tables(prime, tables[1], tables[2]))
            self.same(left, right)

    def test_turned(self):
        self.same(turned_table([((1,), (2,), ())]), [((1,),), ((2,),), ((),)])
        self.same(turned_table(table=(((1,), (2,)), ((3,), (4,)))), [((1,), (3,)), ((2,), (4,))])
        self.same(turned_table([(), ()]), [])

    def test_determinants(self):
        self.same([determinant(5, []), determinant(5, [((0, 2),)]), determinant(5, [((),)])], [(1,), (0, 2), ()])
        self.same(determinant(5, [((), (1,)), ((1,), ())]), (4,))
        self.same(determinant(prime=5, table=(((0, 1), (3,)), ((2,), (0, 1)))), (4, 0, 1))
        self.same(determinant(2, [((1,), (1,)), ((1,), (1,))]), ())
        self.same(determinant(97, unit_table(6)), (1,))

    def test_determinants_by_their_definition(self):
        draw = drawing(42)
        for _ in range(120):
            prime = draw.choice(PRIMES)
            places = draw.randrange(1, 6)
            table = [drawn_row(draw, prime, places, 3) for _ in range(places)]
            if draw.random() < 0.3:
                table[-1] = row_times(prime, table[0], drawn_form(draw, prime, 2))
            if draw.random() < 0.3:
                table = [tuple(form if draw.random() < 0.5 else () for form in row) for row in table]
            self.same(determinant(prime, table), by_permutations(prime, table))

    def test_arguments_stay_and_tables_are_new(self):
        table = [((), (1,)), ((1,), ())]
        determinant(5, table)
        product = multiply_tables(5, table, table)
        product.append(((), ()))
        turned_table(table).append(())
        self.same(table, [((), (1,)), ((1,), ())])
        unit_table(2).append(1)
        self.same(len(unit_table(2)), 2)


if __name__ == "__main__":
    unittest.main()
