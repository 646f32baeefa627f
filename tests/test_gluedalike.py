import unittest

from cases import WRONG, Case, bent, drawing
from freetops.counting import free_number
from freetops.errors import Unlike
from freetops.forms import is_form
from freetops.gluedalike import alike_pair, differing_height, glued_alike, is_alike_pair
from freetops.gluings import Gluing
from freetops.tables import determinant
from freetops.twosided import determinant_two, is_downward, is_two_sided, multiply_twos, two_sided
from test_gluings import GLUING, TABLE, drawn_gluing, plus_times, state, unit_table_of
from test_twosided import ONE, ZERO, drawn_two, unit_twos

CALLS = (glued_alike, alike_pair, differing_height)


def is_pair_by_definition(one, other, value):
    """Multiplied out, for values whose powers are not far from 0."""
    if not isinstance(value, tuple) or len(value) != 2:
        return False
    p, n = one.prime, one.width
    left, right = value
    for table, fits in ((left, is_form), (right, lambda prime, two: is_two_sided(prime, two) and is_downward(two))):
        if not isinstance(table, (list, tuple)) or len(table) != n:
            return False
        for row in table:
            if not isinstance(row, tuple) or len(row) != n or not all(fits(p, item) for item in row):
                return False
    whole = multiply_twos(p, [tuple(two_sided(form) for form in row) for row in left], one.table())
    if multiply_twos(p, whole, right) != other.table() or len(determinant(p, left)) != 1:
        return False
    low, form = determinant_two(p, right)
    return low == 0 and len(form) == 1


def mixed(draw, gluing):
    """A gluing that is glued alike, by changes of both charts."""
    p, n = gluing.prime, gluing.width
    table = gluing.table()
    for _ in range(4 if n > 1 else 0):
        one, other = draw.sample(range(n), 2)
        two = drawn_two(draw, p, 2, 2)
        up = two_sided(two[1])
        table[one] = plus_times(p, table[one], table[other], up)
        turned = [tuple(row[at] for row in table) for at in range(n)]
        one, other = draw.sample(range(n), 2)
        turned[one] = plus_times(p, turned[one], turned[other], two_sided(two[1], -len(two[1])))
        table = [tuple(column[at] for column in turned) for at in range(n)]
    return Gluing(p, table)


class GluedAlike(Case):
    def test_small_gluings(self):
        plain = Gluing(5, unit_twos(2))
        other = Gluing(5, [((1, (1,)), ZERO), (ONE, (-1, (1,)))])
        self.same([glued_alike(plain, other), glued_alike(one=GLUING, other=plain), differing_height(plain, other),
                   differing_height(GLUING, plain), differing_height(one=plain, other=GLUING), alike_pair(GLUING, plain)],
                  [True, False, None, -1, -1, None])
        self.same(is_alike_pair(plain, other, alike_pair(plain, other)), True)
        self.same(is_alike_pair(GLUING, GLUING, (unit_table_of(2), unit_twos(2))), True)

    def test_pairs_multiply_out(self):
        draw = drawing(651)
        alike = 0
        for at in range(80):
            one = drawn_gluing(draw, most=3)
            other = mixed(draw, one) if at % 2 else drawn_gluing(draw, prime=one.prime, width=one.width, most=3)
            pair = alike_pair(one=one, other=other)
            self.same([glued_alike(one, other), pair is not None], [one.heights == other.heights] * 2)
            if pair is None:
                continue
            alike += 1
            self.assertTrue(is_pair_by_definition(one, other, pair))
            self.same([is_alike_pair(one=one, other=other, value=pair), alike_pair(one, other), isinstance(pair, tuple)],
                      [True, pair, True])
            self.same([isinstance(table, list) for table in pair], [True, True])
            self.same(is_alike_pair(one, other, (tuple(pair[0]), tuple(pair[1]))), True)
            pair[0].clear()
            self.same(len(alike_pair(one, other)[0]), one.width)
        self.assertGreater(alike, 38)

    def test_mixed_gluings_are_alike(self):
        draw = drawing(652)
        for _ in range(40):
            one = drawn_gluing(draw)
            other = mixed(draw, one)
            self.same([glued_alike(one, other), differing_height(one, other), one.heights], [True, None, other.heights])

    def test_bent_pairs(self):
        draw = drawing(653)
        seen = 0
        for prime, width in ((2, 1), (2, 2), (5, 2), (3, 3)):
            one = drawn_gluing(draw, prime=prime, width=width, most=2)
            other = mixed(draw, one)
            for value in bent(alike_pair(one, other)):
                found = is_alike_pair(one, other, value)
                self.same(found, is_pair_by_definition(one, other, value))
                seen += not found
        self.assertGreater(seen, 600)

    def test_a_determinant_with_a_power_of_x(self):
        below = [((-1, (1,)), ZERO), (ZERO, (-1, (1,)))]
        self.same(multiply_twos(5, GLUING.table(), below), GLUING.moved(-1).table())
        self.same(is_alike_pair(GLUING, GLUING.moved(-1), (unit_table_of(2), below)), False)

    def test_powers_far_from_0(self):
        plain = Gluing(5, unit_twos(2))
        for power in (-10 ** 9 + 1, -10 ** 30):
            far = [(ONE, (power, (1,))), (ZERO, ONE)]
            self.same(is_alike_pair(plain, plain, (unit_table_of(2), far)), False)
            self.same(is_alike_pair(plain, plain, (unit_table_of(2), [((power, (1,)), ZERO), (ZERO, (-power, (1,)))])), False)

    def test_differing_heights_by_free_numbers(self):
        draw = drawing(654)
        seen = 0
        for _ in range(100):
            one = drawn_gluing(draw, width=draw.randrange(1, 5), most=2)
            other = drawn_gluing(draw, prime=one.prime, width=one.width, most=2)
            found = differing_height(one, other)
            unlike = [t for t in range(-30, 40) if free_number(one.span(), within=t) != free_number(other.span(), within=t)]
            self.same(found, unlike[0] if unlike else None)
            self.same(differing_height(other, one), found)
            seen += bool(unlike)
        self.assertGreater(seen, 30)

    def test_wrong_values(self):
        left, right = alike_pair(GLUING, GLUING)
        for value in [*WRONG, (), 0, (left,), (left, right, ()), [left, right], (right, left), (left, None), (None, right),
                      (left[:1], right), (left, right[:1]), ([list(row) for row in left], right), (left, [list(row) for row in right]),
                      ([], []), ((), ())]:
            self.same(is_alike_pair(GLUING, GLUING, value), False)

    def test_unlike(self):
        before = state(GLUING)
        for other in (Gluing(7, TABLE), Gluing(5, [(ONE,)]), Gluing(5, unit_twos(3)), GLUING + GLUING):
            for call in CALLS:
                self.raises(Unlike, {}, call, GLUING, other)
                self.raises(Unlike, {}, call, other, GLUING)
            for value in [*WRONG, ()]:
                self.raises(Unlike, {}, is_alike_pair, GLUING, other, value)
        self.same(state(GLUING), before)


if __name__ == "__main__":
    unittest.main()
