"""Forms that fit full spans, and opposites by them."""

from freetops.checks import check_full
from freetops.division import divided, divisor_of
from freetops.errors import InvalidForm, ZeroForm
from freetops.forms import is_form, monic_of
from freetops.rows import row_times, unit_row
from freetops.spans import Span
from freetops.tables import determinant, turned_table


def least_form(span):
    """The monic form of least degree that fits."""
    check_full(span)
    whole = determinant(span.prime, span.key())
    # the determinant fits; what divides it and all its ways can be spared
    shared = [whole]
    for way in _unit_ways(span, whole):
        shared = shared + list(way)
    least, _ = divided(span.prime, whole, divisor_of(span.prime, shared))
    return monic_of(span.prime, least)


def fits(span, form):
    """Whether any value is a form other than the zero form that fits."""
    check_full(span)
    if not is_form(span.prime, form) or form == ():
        return False
    return all([_unit_times(span, place, form) in span for place in range(span.places)])


def opposite(span, *, by=None):
    """The opposite by a form that fits, by the least one if none is given."""
    check_full(span)
    form = least_form(span) if by is None else by
    if not is_form(span.prime, form):
        raise InvalidForm(0)
    if form == ():
        raise ZeroForm()
    lifts = [-lift for lift in span.lifts]
    # the table of the ways times the key is the form times the unit table, and so is the key times
    # that table; so the columns of that table make just the rows of the opposite
    return Span(span.prime, lifts, turned_table(_unit_ways(span, form)))


def _unit_times(span, place, form):
    """The form times the unit row of a place."""
    return row_times(span.prime, unit_row(span.places, place), form)


def _unit_ways(span, form):
    """For each place, the way of the form times its unit row; raises NotIn for the first that is not in."""
    return [span.way_of(_unit_times(span, place, form)) for place in range(span.places)]
