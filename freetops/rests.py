"""The rests of full spans by their numbers, and rests of rows times powers of x."""

from freetops.checks import check_full, listed_many
from freetops.division import power_remainder
from freetops.errors import InvalidNumber, InvalidRow
from freetops.forms import form_of
from freetops.numbers import is_number
from freetops.rows import is_row, row_times
from freetops.tables import determinant


def rest_at(span, number):
    """The rest with a number."""
    check_full(span)
    if not is_number(number, 0, _rest_many(span) - 1):
        raise InvalidNumber(number)
    return _rest_with(span, number)


def number_of_rest(span, rest):
    """The number of a rest."""
    check_full(span)
    if not _is_rest(span, rest):
        raise InvalidRow(0)
    number = 0
    for form, degree in reversed(list(zip(rest, _lead_degrees(span)))):
        for at in range(degree - 1, -1, -1):
            number = number * span.prime + (form[at] if at < len(form) else 0)
    return number


def rests(span):
    """All rests, by their numbers."""
    check_full(span)
    for number in range(listed_many(span.prime, span.size)):
        yield _rest_with(span, number)


def power_rest(span, number, row):
    """The rest of x ** number times a row."""
    check_full(span)
    if not is_number(number, 0, 10 ** 30):
        raise InvalidNumber(number)
    if not is_row(span.prime, span.places, row):
        raise InvalidRow(0)
    # the determinant of the key times any row is in the span, so its multiples do not count
    power = power_remainder(span.prime, (0, 1), number, determinant(span.prime, span.key()))
    return span.rest_of(row_times(span.prime, row, power))


def _lead_degrees(span):
    """For each place, the degree of the form of the key row that has its lead there."""
    degrees = {lead: len(row[lead]) - 1 for row, lead in zip(span.key(), span.leads())}
    return [degrees[place] for place in range(span.places)]


def _rest_many(span):
    many = 1
    for _ in range(span.size):
        many = many * span.prime
    return many


def _rest_with(span, number):
    forms = []
    for degree in _lead_degrees(span):
        figures = []
        for _ in range(degree):
            figures.append(number % span.prime)
            number = number // span.prime
        forms.append(form_of(span.prime, figures))
    return tuple(forms)


def _is_rest(span, value):
    if not is_row(span.prime, span.places, value):
        return False
    return all([len(form) <= degree for form, degree in zip(value, _lead_degrees(span))])
