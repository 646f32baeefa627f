"""Whether two gluings are alike, and the pairs of tables that make one of them the other."""

from freetops.errors import Unlike
from freetops.gluings import is_constant, is_downward_table, is_unit_table, two_sided_table
from freetops.twoinverse import inverse_twos
from freetops.twosided import determinant_two, multiply_twos, raised_by


def glued_alike(one, other):
    """Whether two gluings are glued alike."""
    _check_like(one, other)
    return one.heights == other.heights


def alike_pair(one, other):
    """A pair of tables by which two gluings are glued alike; None if there is none."""
    _check_like(one, other)
    if one.heights != other.heights:
        return None
    prime = one.prime
    up, _, down = one.splitting()
    other_up, _, other_down = other.splitting()
    # up times one is the same diagonal table times down as other_up times other is times other_down
    left = multiply_twos(prime, inverse_twos(prime, two_sided_table(other_up)), two_sided_table(up))
    right = multiply_twos(prime, inverse_twos(prime, down), other_down)
    return [tuple([raised_by(two, 0) for two in row]) for row in left], right


def is_alike_pair(one, other, value):
    """Whether any value is a pair of tables by which two gluings are glued alike."""
    _check_like(one, other)
    if not isinstance(value, tuple) or len(value) != 2:
        return False
    left, right = value
    if not is_unit_table(one.prime, one.width, left) or not is_downward_table(one.prime, one.width, right):
        return False
    # powers in the right table may be far below 0, so it is compared with the only one that fits
    # to the left table, instead of multiplied
    whole = multiply_twos(one.prime, two_sided_table(left), one.table())
    fitting = multiply_twos(one.prime, inverse_twos(one.prime, whole), other.table())
    return list(right) == fitting and is_constant(determinant_two(one.prime, right))


def differing_height(one, other):
    """The least height up to which the spans of two gluings have other free numbers; None if alike."""
    _check_like(one, other)
    for height, another in zip(one.heights, other.heights):
        if height != another:
            return min(height, another)
    return None


def _check_like(one, other):
    if one.prime != other.prime or one.width != other.width:
        raise Unlike()
