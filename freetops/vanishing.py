"""Rows read as sums of forms times powers of Y, and spans of those that vanish at pairs of residues."""

from math import comb

from freetops.checks import check_number, check_pairs, check_prime
from freetops.conditions import cut, meets
from freetops.forms import add, form_of, multiply
from freetops.spans import all_rows

MOST_BOUND = 20
MOST_TIMES = 3
MOST_POWER = 6


def vanishing_span(prime, pairs, *, bound, times, most):
    """The span of the rows that vanish so many times at each of the pairs."""
    check_prime(prime)
    check_pairs(prime, pairs)
    check_number(bound, 1, MOST_BOUND)
    check_number(times, 1, MOST_TIMES)
    check_number(most, 1, MOST_POWER)
    conditions = []
    for pair in pairs:
        conditions = conditions + _vanishing_conditions(prime, most + 1, pair, times)
    span = all_rows(prime, [power * (bound - 1) for power in range(most + 1)])
    return cut(span, *conditions)


def row_value(prime, row, form):
    """The value of a row at a form."""
    value = ()
    for own in reversed(row):
        value = add(prime, multiply(prime, value, form), own)
    return value


def vanishes(prime, row, pair, times):
    """Whether a row vanishes so many times at a pair of residues."""
    conditions = _vanishing_conditions(prime, len(row), pair, times)
    return all([meets(prime, row, condition) for condition in conditions])


def _vanishing_conditions(prime, places, pair, times):
    """The conditions that a row with so many places meets if it vanishes so many times at a pair."""
    return [(pair[0], _digit_weights(prime, places, pair[1], at), times - at) for at in range(times)]


def _digit_weights(prime, places, value, at):
    """The row whose product with a row is the form at (Y - value) ** at."""
    weights = [()] * at
    power = 1
    for place in range(at, places):
        weights.append(form_of(prime, [comb(place, at) * power]))
        power = power * value % prime
    return tuple(weights[:places])
