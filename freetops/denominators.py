"""Fraction spans: their rows say with which forms below several fractions are near to others at once."""

from freetops.checks import check_lifts_of
from freetops.errors import ZeroForm
from freetops.rows import row_times, unit_row
from freetops.spans import Span


def fraction_span(prime, forms, by, lifts):
    """The fraction span of a list of forms over one form."""
    if not by:
        raise ZeroForm()
    places = len(forms) + 1
    check_lifts_of(places, lifts)
    rows = [(*forms, (1,))]
    for place in range(len(forms)):
        rows.append(row_times(prime, unit_row(places, place), by))
    return Span(prime, lifts, rows)


def denominator_row(span):
    """The first key row whose last form is not the zero form; None if there is none."""
    for row in span.key():
        if row[-1]:
            return row
    return None
