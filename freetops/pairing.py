"""The pairing of two spans: the products of their forms, place by place."""

from freetops.errors import Unlike
from freetops.forms import multiply
from freetops.spans import Span


def pairing(one, other):
    """The span of the rows of all products of a form of the one and a form of the other span's rows."""
    if one.prime != other.prime:
        raise Unlike()
    lifts = [first + second for first in one.lifts for second in other.lifts]
    rows = [_row_of_products(one.prime, first, second) for first in one.key() for second in other.key()]
    return Span(one.prime, lifts, rows)


def _row_of_products(prime, one, other):
    return tuple([multiply(prime, first, second) for first in one for second in other])
