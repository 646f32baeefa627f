"""Spans with other lifts, and the way from one to the other by single changes."""

from freetops.checks import check_lifts_of
from freetops.errors import InvalidNumber
from freetops.numbers import is_number
from freetops.spans import Span

MOST_CHANGE = 20


def lifted(span, lifts):
    """The span of the same rows with other lifts."""
    check_lifts_of(span.places, lifts)
    return Span(span.prime, lifts, span.key())


def lift_place(span, place, by=1):
    """The span of the same rows with one lift greater by a number."""
    if not is_number(place, 0, span.places - 1):
        raise InvalidNumber(place)
    if not is_number(by, -MOST_CHANGE, MOST_CHANGE):
        raise InvalidNumber(by)
    lifts = [lift + by if at == place else lift for at, lift in enumerate(span.lifts)]
    return Span(span.prime, lifts, span.key())


def walk(span, lifts):
    """The heights at the beginning and after each single change of the walk to these lifts."""
    check_lifts_of(span.places, lifts)
    targets = list(lifts)
    now = list(span.lifts)
    here = span
    yield here.heights
    for place, target in enumerate(targets):
        while now[place] != target:
            now[place] += 1 if now[place] < target else -1
            here = Span(span.prime, now, here.key())
            yield here.heights
