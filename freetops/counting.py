"""How many rows of a span there are up to a height, and these rows by their numbers."""

from freetops.checks import listed_many
from freetops.errors import InvalidNumber
from freetops.figures import forms_of_number, number_of_forms
from freetops.rows import combined, height_of, zero_row


def free_number(span, *, within):
    """The number n such that p ** n rows are the zero row or have a height of at most within."""
    return sum(_lengths(span, within))


def row_at(span, number, *, within):
    """The row with a number."""
    forms = forms_of_number(span.prime, number, _lengths(span, within))
    if forms is None:
        raise InvalidNumber(number)
    return _row_with(span, forms)


def number_of(span, row, *, within):
    """The number of a row of the span."""
    forms = span.way_of(row)
    height = height_of(row, span.lifts)
    if height is not None and height > within:
        raise InvalidNumber(within)
    return number_of_forms(span.prime, forms, _lengths(span, within))


def rows_up_to(span, *, within):
    """All rows that are the zero row or have a height of at most within, by their numbers."""
    lengths = _lengths(span, within)
    for number in range(listed_many(span.prime, sum(lengths))):
        yield _row_with(span, forms_of_number(span.prime, number, lengths))


def _lengths(span, within):
    """For each key row, how many residues its form may have."""
    return [max(within - height + 1, 0) for height in span.heights]


def _row_with(span, forms):
    if span.rank == 0:
        return zero_row(span.places)
    return combined(span.prime, forms, span.key())
