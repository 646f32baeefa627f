"""Checks of arguments that several modules share. Each raises the error of the first fault."""

from freetops.errors import InvalidLifts, InvalidNumber, InvalidPoint, InvalidRow, LowRank, NotPrime, SamePoint, TooMany
from freetops.numbers import are_residues, is_any_number, is_number, is_prime
from freetops.rows import is_row

MOST_LISTED = 4096


def check_prime(prime):
    """Raises for any value that is no prime."""
    if not is_prime(prime):
        raise NotPrime(prime)


def check_number(value, least, most):
    """Raises for any value that is no number from least to most."""
    if not is_number(value, least, most):
        raise InvalidNumber(value)


def check_lifts(lifts):
    """Raises unless any value is a list or tuple of one or more numbers."""
    if not isinstance(lifts, (list, tuple)) or len(lifts) == 0:
        raise InvalidLifts(-1)
    for at, lift in enumerate(lifts):
        if not is_any_number(lift):
            raise InvalidLifts(at)


def check_lifts_of(many, lifts):
    """Raises unless any value is a list or tuple of so many numbers, one or more."""
    if not isinstance(lifts, (list, tuple)) or len(lifts) != many:
        raise InvalidLifts(-1)
    check_lifts(lifts)


def check_rows(prime, places, rows):
    """Raises unless any value is a list or tuple of rows with so many places."""
    if not isinstance(rows, (list, tuple)):
        raise InvalidRow(-1)
    for at, row in enumerate(rows):
        if not is_row(prime, places, row):
            raise InvalidRow(at)


def check_span(prime, lifts, rows):
    """Raises unless a span can be made of these values."""
    check_prime(prime)
    check_lifts(lifts)
    check_rows(prime, len(lifts), rows)


def check_pairs(prime, pairs):
    """Raises unless any value is a list or tuple of pairs of residues with different first ones."""
    if not isinstance(pairs, (list, tuple)):
        raise InvalidPoint(-1)
    for at, pair in enumerate(pairs):
        if not are_residues(prime, 2, pair):
            raise InvalidPoint(at)
    check_different(pairs)


def check_different(pairs):
    """Raises for the first pair that begins with the same residue as an earlier one."""
    earlier = set()
    for pair in pairs:
        if pair[0] in earlier:
            raise SamePoint(pair[0])
        earlier.add(pair[0])


def check_full(span):
    """Raises for a span that is not full."""
    if span.size is None:
        raise LowRank(span.rank)


def listed_many(prime, free):
    """The number of the items of a listing, prime ** free; raises if there are too many."""
    many = 1
    for _ in range(free):
        many = many * prime
        if many > MOST_LISTED:
            raise TooMany(free)
    return many
