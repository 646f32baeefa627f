"""The reach of a full span: the greatest height of its rests."""

from freetops.checks import check_full
from freetops.forms import raised
from freetops.rows import height_of, row_times, unit_row


def reach(span):
    """The greatest height of a rest; None if the zero row is the only one."""
    rest = deepest(span)
    if rest is None:
        return None
    return height_of(rest, span.lifts)


def deepest(span):
    """A rest of the greatest height; None if the zero row is the only rest."""
    check_full(span)
    found = None
    # the key rows ascend, so the last one that leaves rests at its lead leaves the highest ones
    for row, lead in zip(span.key(), span.leads()):
        degree = len(row[lead]) - 1
        if degree > 0:
            found = row_times(span.prime, unit_row(span.places, lead), raised((1,), degree - 1))
    return found


def all_near(span, *, within):
    """Whether each rest is the zero row or has a height of at most within."""
    deep = reach(span)
    return deep is None or deep <= within
