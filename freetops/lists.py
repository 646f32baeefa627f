"""Lists of forms: all short forms that meet many of some pairs of points."""

from freetops.checks import check_number, check_pairs, check_prime
from freetops.digits import forms_of_row
from freetops.errors import Beyond, InvalidNumber
from freetops.forms import value_at
from freetops.numbers import is_any_number
from freetops.vanishing import MOST_BOUND, MOST_POWER, MOST_TIMES, vanishing_span


def forms_meeting(prime, pairs, *, bound, met):
    """The ascending list of the forms with at most so many residues that meet so many of the pairs."""
    check_prime(prime)
    check_pairs(prime, pairs)
    check_number(bound, 1, MOST_BOUND)
    if not is_any_number(met) or met < 1:
        raise InvalidNumber(met)
    lowest = []
    for times in range(1, MOST_TIMES + 1):
        for most in range(1, MOST_POWER + 1):
            span = vanishing_span(prime, pairs, bound=bound, times=times, most=most)
            if times * met > span.heights[0]:
                forms = forms_of_row(prime, span.key()[0], bound=bound)
                return [form for form in forms if len(met_by(prime, pairs, form)) >= met]
            if times == 1:
                lowest.append(span.heights[0])
    raise Beyond(met, min(lowest))


def lowest_heights(prime, pairs, *, bound, times):
    """The list of the lowest heights of the vanishing spans for each greatest power of Y."""
    powers = range(1, MOST_POWER + 1)
    return [vanishing_span(prime, pairs, bound=bound, times=times, most=most).heights[0] for most in powers]


def met_by(prime, pairs, form):
    """The ascending list of the residues of the pairs that a form meets."""
    return sorted([point for point, value in pairs if value_at(prime, form, point) == value])
