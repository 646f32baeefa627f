"""Whether spans are alike, and a row that tells two of them apart."""

from freetops.errors import Unlike
from freetops.spans import Span


def are_alike(one, other):
    """Whether two spans have equal primes and equal lifts."""
    if not isinstance(one, Span) or not isinstance(other, Span):
        return False
    return one.prime == other.prime and one.lifts == other.lifts


def told_apart(one, other):
    """Which of two alike spans has a row that the other one has not, the row, and its rest.

    None if they are equal.
    """
    if not are_alike(one, other):
        raise Unlike()
    for which, (own, foreign) in enumerate([(one, other), (other, one)]):
        for row in own.key():
            if row not in foreign:
                return which, row, foreign.rest_of(row)
    return None
