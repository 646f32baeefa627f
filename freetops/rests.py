"""The rests of full spans by their numbers, and rests of rows times powers of x."""

from freetops.checks import check_full, listed_many
from freetops.division import power_remainder
from freetops.errors import InvalidNumber, InvalidRow
from freetops.figures import forms_of_number, number_of_forms
from freetops.numbers import is_number
from freetops.rows import is_row, row_times
from freetops.tables import determinant


def rest_at(span, number):
    """The rest with a number."""
    check_full(span)
    rest = forms_of_number(span.prime, number, _lead_degrees(span))
    if rest is None:
        raise InvalidNumber(number)
    return rest


def number_of_rest(span, rest):
    """The number of a rest."""
    check_full(span)
    if not _is_rest(span, rest):
        raise InvalidRow(0)
    return number_of_forms(span.prime, rest, _lead_degrees(span))


def rests(span):
    """All rests, by their numbers."""
    check_full(span)
    for number in range(listed_many(span.prime, span.size)):
        yield forms_of_number(span.prime, number, _lead_degrees(span))


def power_rest(span, number, row):
    """The rest of x ** number times a row."""
    check_full(span)
    if not is_number(number, 0, 10 ** 30):
        raise InvalidNumber(number)
    if not is_row(span.prime, span.places, row):
        raise InvalidRow(0)
    # the determinant of the key times any row is in the span, so its multiples do not count
    power = power_remainder(span.prime, (0, 1), number, determinant(span.prime, span.key()))
    return span.rest_of(row_times(span.prime, row, power))


def _lead_degrees(span):
    """For each place, the degree of the form of the key row that has its lead there."""
    degrees = {lead: len(row[lead]) - 1 for row, lead in zip(span.key(), span.leads())}
    return [degrees[place] for place in range(span.places)]


def _is_rest(span, value):
    if not is_row(span.prime, span.places, value):
        return False
    return all([len(form) <= degree for form, degree in zip(value, _lead_degrees(span))])
