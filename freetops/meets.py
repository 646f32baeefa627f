"""Relations of rows, sums of spans and meets of spans."""

from freetops.checks import check_lifts_of, check_prime, check_rows
from freetops.errors import InvalidRow, Unlike
from freetops.members import are_alike
from freetops.relating import meet_rows, relation_rows
from freetops.spans import Span


def relations(prime, rows, lifts):
    """The span of the relations of a list of one or more rows, with lifts for these rows."""
    check_prime(prime)
    if not isinstance(rows, (list, tuple)) or len(rows) == 0:
        raise InvalidRow(-1)
    if not isinstance(rows[0], tuple):
        raise InvalidRow(0)
    check_rows(prime, len(rows[0]), rows)
    check_lifts_of(len(rows), lifts)
    return Span(prime, lifts, relation_rows(prime, rows))


def sum_of(first, *others):
    """The sum of alike spans."""
    _check_alike(first, others)
    rows = first.key()
    for other in others:
        rows = rows + other.key()
    return Span(first.prime, first.lifts, rows)


def meet_of(first, *others):
    """The span of the rows that are in all of some alike spans."""
    _check_alike(first, others)
    meet = first
    for other in others:
        rows = meet_rows(first.prime, first.places, meet.key(), other.key())
        meet = Span(first.prime, first.lifts, rows)
    return meet


def _check_alike(first, others):
    for other in others:
        if not are_alike(first, other):
            raise Unlike()
