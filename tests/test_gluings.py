import inspect
import itertools
import unittest

from cases import PRIMES, WRONG, Case, bent, drawing, forms_below, state_of
from freetops.counting import free_number
from freetops.errors import InvalidTable, NoSplit, NotPrime, TooMany, Unlike
from freetops.forms import is_form
from freetops.gluings import Gluing
from freetops.spans import Span
from freetops.tables import determinant
from freetops.twosided import (add_two, determinant_two, is_downward, is_two_sided, multiply_two, multiply_twos,
                               two_sided)
from test_twosided import ONE, ZERO, drawn_two, terms, unit_twos

# [[x, 1], [0, 1 / x]]
TABLE = [((1, (1,)), ONE), (ZERO, (-1, (1,)))]
GLUING = Gluing(5, TABLE)


def state(gluing):
    return repr(gluing), gluing.prime, gluing.width, gluing.heights, gluing.table(), state_of(gluing.span())


def plus_times(prime, row, other, two):
    """A row plus a two-sided form times another one."""
    return tuple(add_two(prime, a, multiply_two(prime, two, b)) for a, b in zip(row, other))


def drawn_gluing(draw, primes=tuple(PRIMES), width=None, prime=None, steps=5, most=10):
    """A diagonal table of powers of x, mixed by rows and columns."""
    prime = prime or draw.choice(primes)
    width = width or draw.randrange(1, 5)
    table = [tuple((draw.randrange(-most, most + 1), (draw.randrange(1, prime),)) if at == place else ZERO
                   for at in range(width)) for place in range(width)]
    for _ in range(steps if width > 1 else 0):
        one, other = draw.sample(range(width), 2)
        two = drawn_two(draw, prime, 3, 2)
        if draw.random() < 0.5:
            table[one] = plus_times(prime, table[one], table[other], two)
        else:
            turned = [tuple(row[at] for row in table) for at in range(width)]
            turned[one] = plus_times(prime, turned[one], turned[other], two)
            table = [tuple(column[at] for column in turned) for at in range(width)]
    return Gluing(prime, table)


def is_splitting_by_definition(gluing, value):
    """Multiplied out, for values whose powers are not far from 0."""
    if not isinstance(value, tuple) or len(value) != 3:
        return False
    up, heights, down = value
    p, n = gluing.prime, gluing.width
    for table, fits in ((up, is_form), (down, lambda prime, two: is_two_sided(prime, two) and is_downward(two))):
        if not isinstance(table, (list, tuple)) or len(table) != n:
            return False
        for row in table:
            if not isinstance(row, tuple) or len(row) != n or not all(fits(p, item) for item in row):
                return False
    if not isinstance(heights, tuple) or len(heights) != n or not all(type(height) is int for height in heights):
        return False
    whole = multiply_twos(p, [tuple(two_sided(form) for form in row) for row in up], gluing.table())
    moved = [tuple(multiply_two(p, two, (height, (1,))) for two in row) for row, height in zip(down, heights)]
    if whole != moved or len(determinant(p, up)) != 1:
        return False
    low, form = determinant_two(p, down)
    return low == 0 and len(form) == 1


class Gluings(Case):
    def test_example(self):
        self.same([GLUING.heights, (GLUING * GLUING).heights, GLUING.moved(2).heights, GLUING.about().heights],
                  [(-1, 1), (-2, 0, 0, 2), (1, 3), (-1, 1)])

    def test_attributes_and_lists(self):
        table = list(TABLE)
        gluing = Gluing(prime=5, table=table)
        table.append(None)
        gluing.table().append(None)
        self.same([gluing.prime, gluing.width, gluing.table(), repr(gluing), bool(gluing)],
                  [5, 2, TABLE, "Gluing(p 5, heights -1 1)", True])
        self.same(state(Gluing(5, tuple(TABLE))), state(gluing))
        self.same([repr(Gluing(97, [((-3, (96,)),)])), repr(Gluing(2, unit_twos(4)))],
                  ["Gluing(p 97, heights -3)", "Gluing(p 2, heights 0 0 0 0)"])
        with self.assertRaises(AttributeError):
            gluing.heights = ()

    def test_spans(self):
        draw = drawing(631)
        for _ in range(60):
            gluing = drawn_gluing(draw)
            low = min((two[0] for row in gluing.table() for two in row if two[1]), default=0)
            w = max(0, -low)
            rows = []
            for row in gluing.table():
                rows.append(tuple((0,) * (two[0] + w) + two[1] if two[1] else () for two in row))
            self.same(state_of(gluing.span()), state_of(Span(gluing.prime, (-w,) * gluing.width, rows)))
            self.same([gluing.heights, gluing.span().heights], [gluing.heights, gluing.heights])
            whole = determinant_two(gluing.prime, gluing.table())
            self.same([sum(gluing.heights), list(gluing.heights)], [whole[0], sorted(gluing.heights)])

    def test_heights_of_diagonal_tables(self):
        for powers in ((0,), (-10,), (10, -10), (3, 3, -2), (1, 0, -1, 0)):
            table = [tuple((power, (1,)) if at == place else ZERO for at in range(len(powers))) for place, power in enumerate(powers)]
            self.same(Gluing(7, table).heights, tuple(sorted(powers)))
        # the entry at the rim counts: with x ** 0 between x and 1 / x the two heights come together
        self.same(Gluing(5, [((1, (1,)), ZERO), (ONE, (-1, (1,)))]).heights, (0, 0))

    def test_equality(self):
        self.same([GLUING == Gluing(5, tuple(TABLE)), GLUING != Gluing(5, TABLE)], [True, False])
        for value in [*WRONG, TABLE, tuple(TABLE), Gluing(7, TABLE), Gluing(5, TABLE[::-1]), GLUING.moved(1), GLUING.span(), repr(GLUING),
                      Gluing(5, [(ONE,)])]:
            self.same([GLUING == value, GLUING != value, value == GLUING], [False, True, False])


class Splittings(Case):
    def test_splittings_multiply_out(self):
        draw = drawing(632)
        for _ in range(80):
            gluing = drawn_gluing(draw)
            value = gluing.splitting()
            self.assertTrue(is_splitting_by_definition(gluing, value))
            self.same([gluing.is_splitting(value=value), value[1], isinstance(value[0], list), isinstance(value[2], list)],
                      [True, gluing.heights, True, True])
            self.same(Gluing(gluing.prime, gluing.table()).splitting(), value)
            # tuples may stand for the tables, and the rows in any order
            self.same(gluing.is_splitting((tuple(value[0]), value[1], tuple(value[2]))), True)
            order = draw.sample(range(gluing.width), gluing.width)
            shuffled = ([value[0][at] for at in order], tuple(value[1][at] for at in order), [value[2][at] for at in order])
            self.same(gluing.is_splitting(shuffled), True)
            value[0].append(None)
            value[2].clear()
            self.same(gluing.is_splitting(gluing.splitting()), True)

    def test_bent_splittings(self):
        draw = drawing(633)
        gluings = [GLUING, Gluing(2, [(ONE,)]), Gluing(3, [((-2, (2,)),)]), drawn_gluing(draw, (2,), 2), drawn_gluing(draw, (5,), 3)]
        seen = {True: 0, False: 0}
        for gluing in gluings:
            for value in bent(gluing.splitting()):
                found = gluing.is_splitting(value)
                self.same(found, is_splitting_by_definition(gluing, value))
                seen[found] += 1
        self.assertGreater(seen[False], 1000)

    def test_other_right_splittings(self):
        # a residue times a row, and one row more often added to another one of greater height
        up, heights, down = GLUING.splitting()
        doubled = ([tuple(tuple(2 * number % 5 for number in form) for form in up[0]), up[1]],
                   heights, [tuple((low, tuple(2 * number % 5 for number in form)) for low, form in down[0]), down[1]])
        self.same(GLUING.is_splitting(doubled), True)
        one = Gluing(5, unit_twos(2))
        mixed = ([((1,), ()), ((2,), (1,))], (0, 0), [(ONE, ZERO), ((0, (2,)), ONE)])
        self.same([one.is_splitting(mixed), one.is_splitting((mixed[0], (0, 0), mixed[2][::-1]))], [True, False])
        self.same(one.is_splitting(([((1,), ()), ((1,), ())], (0, 0), [(ONE, ZERO), (ONE, ZERO)])), False)
        # other heights do not do
        up = [((0, 1), ()), ((), (1,))]
        self.same(one.is_splitting((up, (1, 0), unit_twos(2))), False)
        self.same(one.is_splitting((unit_table_of(2), (-1, 0), [((1, (1,)), ZERO), (ZERO, ONE)])), False)

    def test_powers_far_from_0(self):
        far = 10 ** 9 - 1
        one = Gluing(5, unit_twos(2))
        up = unit_table_of(2)
        for power in (-far, far, -10 ** 30):
            self.same(one.is_splitting((up, (0, 0), [(ONE, (power, (1,))), (ZERO, ONE)])), False)
            self.same(one.is_splitting((up, (power, 0), [((-power, (1,)), ZERO), (ZERO, ONE)])), False)
            self.same(one.is_splitting((up, (power, -power), [((-power, (1,)), ZERO), (ZERO, (power, (1,)))])), False)

    def test_wrong_values(self):
        up, heights, down = GLUING.splitting()
        for value in [*WRONG, (), 0, (up, heights), (up, heights, down, ()), [up, heights, down], (up, list(heights), down),
                      (up, heights, None), (None, heights, down), (up, None, down), (up, (-1, True), down), (up[:1], heights, down),
                      (up, heights, down[:1]), ([list(row) for row in up], heights, down), (up, heights, [list(row) for row in down]),
                      ([], (), []), (down, heights, up)]:
            self.same(GLUING.is_splitting(value), False)


def unit_table_of(places):
    return [tuple((1,) if at == place else () for at in range(places)) for place in range(places)]


class Sections(Case):
    def test_sections_by_definition(self):
        self.assertTrue(inspect.isgeneratorfunction(Gluing.sections))
        draw = drawing(634)
        seen = 0
        for _ in range(60):
            gluing = drawn_gluing(draw, (2, 3), draw.randrange(1, 3), steps=2, most=2)
            for within in range(-3, 4):
                free = free_number(gluing.span(), within=within)
                if gluing.prime ** free > 300:
                    continue
                found = list(gluing.sections(within=within))
                self.same([len(found), len(set(found))], [gluing.prime ** free] * 2)
                for row in found:
                    self.assertTrue(all(is_two_sided(gluing.prime, two) for two in row))
                    self.assertTrue(all(power <= within for two in row for power in terms(two)))
                # all combinations of the table with short forms that have no greater power
                for forms in itertools.product(forms_below(gluing.prime, 3), repeat=gluing.width):
                    row = multiply_row(gluing, forms)
                    if all(power <= within for two in row for power in terms(two)):
                        self.assertIn(row, found)
                        seen += 1
        self.assertGreater(seen, 300)

    def test_no_sections_but_zero(self):
        gluing = Gluing(5, [((3, (1,)), ZERO), (ZERO, (1, (2,)))])
        for within in (-200, -1, 0):
            self.same(list(gluing.sections(within=within)), [(ZERO, ZERO)])
        self.same(len(list(gluing.sections(within=1))), 5)

    def test_listings_of_4096_and_of_more(self):
        gluing = Gluing(2, [((-3, (1,)),)])
        found = list(gluing.sections(within=8))
        self.same([len(found), len(set(found))], [4096, 4096])
        with self.assertRaises(TooMany) as caught:
            next(gluing.sections(within=9))
        self.same(caught.exception.free, 13)
        items = gluing.sections(within=200)
        with self.assertRaises(TooMany) as caught:
            next(items)
        self.same(caught.exception.free, 204)
        with self.assertRaises(TypeError):
            gluing.sections(3)


def multiply_row(gluing, forms):
    total = (ZERO,) * gluing.width
    for form, row in zip(forms, gluing.table()):
        total = plus_times(gluing.prime, total, row, two_sided(form))
    return total


class Others(Case):
    def test_beside(self):
        draw = drawing(641)
        for _ in range(40):
            one = drawn_gluing(draw, width=draw.randrange(1, 4))
            other = drawn_gluing(draw, prime=one.prime, width=draw.randrange(1, 3))
            found = one + other
            self.same([found.width, found.heights], [one.width + other.width, tuple(sorted(one.heights + other.heights))])
            for i in range(found.width):
                for j in range(found.width):
                    own = i < one.width
                    same = own == (j < one.width)
                    entry = one.table()[i][j] if own and same else other.table()[i - one.width][j - one.width] if same else ZERO
                    self.same(found.table()[i][j], entry)

    def test_paired(self):
        draw = drawing(642)
        for _ in range(40):
            one = drawn_gluing(draw, width=draw.randrange(1, 4), most=5)
            other = drawn_gluing(draw, prime=one.prime, width=draw.randrange(1, 3), most=5)
            found, n = one * other, other.width
            sums = sorted(a + b for a in one.heights for b in other.heights)
            self.same([found.width, found.heights], [one.width * n, tuple(sums)])
            for i, j in itertools.product(range(one.width), repeat=2):
                for k, m in itertools.product(range(n), repeat=2):
                    self.same(found.table()[i * n + k][j * n + m],
                              multiply_two(one.prime, one.table()[i][j], other.table()[k][m]))

    def test_pairs_of_four_rows(self):
        draw = drawing(643)
        one, other = (drawn_gluing(draw, prime=97, width=4, most=3) for _ in range(2))
        found = one * other
        self.same(found.heights, tuple(sorted(a + b for a in one.heights for b in other.heights)))
        self.same(found.is_splitting(found.splitting()), True)

    def test_moved(self):
        draw = drawing(644)
        for _ in range(40):
            gluing = drawn_gluing(draw)
            by = draw.randrange(-20, 21)
            found = gluing.moved(by=by)
            self.same(found.heights, tuple(height + by for height in gluing.heights))
            self.same(found.table(), [tuple((two[0] + by, two[1]) if two[1] else ZERO for two in row) for row in gluing.table()])
            self.same(found.moved(-by) == gluing, True)

    def test_about(self):
        draw = drawing(645)
        for _ in range(40):
            gluing = drawn_gluing(draw)
            found = gluing.about()
            self.same(found.heights, tuple(sorted(-height for height in gluing.heights)))
            turned = [tuple(row[at] for row in found.table()) for at in range(found.width)]
            self.same(multiply_twos(gluing.prime, gluing.table(), turned), unit_twos(gluing.width))
            self.same(found.about() == gluing, True)
        self.same(GLUING.about().table(), [((-1, (1,)), ZERO), ((0, (4,)), (1, (1,)))])

    def test_unlike(self):
        before = state(GLUING)
        for value in [*WRONG, 0, TABLE, Gluing(7, TABLE), GLUING.span()]:
            with self.assertRaises(Unlike):
                GLUING + value
            with self.assertRaises(Unlike):
                GLUING * value
        self.same(state(GLUING), before)


class WrongGluings(Case):
    def test_errors_in_their_order(self):
        for value in [*WRONG, 0, -5, 4, 101, 10 ** 5000]:
            self.raises(NotPrime, {"value": value}, Gluing, value, None)
        for value in (None, True, 0, "0", "", (), [], Span(5, (0,))):
            self.raises(InvalidTable, {"at": -1}, Gluing, 5, value)
        right = (ONE, ONE)
        for value in [*WRONG, 0, (), (ONE,), (ONE, ONE, ONE), [ONE, ONE], (ONE, (1, ())), (ONE, (0, (0, 1))), ((0, (5,)), ONE),
                      (ONE, (True, (1,))), (ONE, (0, (True,))), (ONE, None), (ONE, (1,)), (ONE, [0, (1,)])]:
            self.raises(InvalidTable, {"at": 1}, Gluing, 5, [right, value])
            self.raises(InvalidTable, {"at": 0}, Gluing, 5, (value, None))
        self.raises(InvalidTable, {"at": 0}, Gluing, 5, [(ONE, ONE)])
        self.raises(InvalidTable, {"at": 0}, Gluing, 5, [(ONE,), (ONE,)])

    def test_determinants_with_several_terms_and_with_none(self):
        self.raises(NoSplit, {"determinant": ZERO}, Gluing, 5, [(ONE, ONE), (ONE, ONE)])
        self.raises(NoSplit, {"determinant": ZERO}, Gluing, 5, [(ZERO,)])
        self.raises(NoSplit, {"determinant": (-1, (1, 1))}, Gluing, 5, [((-1, (1, 1)),)])
        self.raises(NoSplit, {"determinant": (-2, (1, 0, 0, 0, 4))}, Gluing, 5, [((-2, (1,)), (1, (1,))), ((1, (1,)), ONE)])
        draw = drawing(646)
        seen = 0
        for _ in range(60):
            prime, width = draw.choice((2, 3, 97)), draw.randrange(1, 5)
            table = [tuple(drawn_two(draw, prime, 4, 1) for _ in range(width)) for _ in range(width)]
            found = determinant_two(prime, table)
            if len(terms(found)) == 1:
                self.same(sum(Gluing(prime, table).heights), found[0])
                continue
            self.raises(NoSplit, {"determinant": found}, Gluing, prime, table)
            seen += 1
        self.assertGreater(seen, 20)


if __name__ == "__main__":
    unittest.main()
