"""Whole spans, closures, index forms, and papers that say whether a span is whole."""

from freetops.folding import Folding
from freetops.forms import is_form, monic_of
from freetops.relating import across_rows
from freetops.rows import are_forms, is_row, row_times
from freetops.spans import Span
from freetops.tables import determinant, multiply_tables, turned_table, unit_table


def is_whole(span):
    """Whether each row is in the span of which a form other than the zero form times it is."""
    return closure(span) == span


def closure(span):
    """The least whole span in which the span is."""
    across = across_rows(span.prime, span.places, span.key())
    return Span(span.prime, span.lifts, across_rows(span.prime, span.places, across))


def index_form(span):
    """The monic determinant of the table with which the key of the closure becomes the key."""
    around = closure(span)
    table = [around.way_of(row) for row in span.key()]
    return monic_of(span.prime, determinant(span.prime, table))


def whole_paper(span):
    """A paper that says that the span is whole, or that it is not."""
    for row in closure(span).key():
        if row not in span:
            # the index form times each row of the closure is in the span
            return "open", index_form(span), row
    return "whole", _inverse_table(span)


def _inverse_table(span):
    """The table that makes the unit table of the key of a whole span."""
    if span.rank == 0:
        return [() for _ in range(span.places)]
    # the columns of the key of a whole span make all rows, so their base is the unit table
    columns = turned_table(span.key())
    folding = Folding(span.prime, [0 for _ in range(span.rank)], columns)
    return turned_table(folding.ways())


def is_whole_paper(span, value):
    """Whether any value is a whole paper of the span."""
    if not isinstance(value, tuple):
        return False
    if len(value) == 2 and value[0] == "whole":
        return _is_inverse_table(span, value[1])
    if len(value) == 3 and value[0] == "open":
        return _is_open_pair(span, value[1], value[2])
    return False


def _is_inverse_table(span, value):
    if not isinstance(value, (list, tuple)) or len(value) != span.places:
        return False
    if not all([are_forms(span.prime, span.rank, row) for row in value]):
        return False
    return multiply_tables(span.prime, span.key(), value) == unit_table(span.rank)


def _is_open_pair(span, form, row):
    if not is_form(span.prime, form) or len(form) < 2 or not is_row(span.prime, span.places, row):
        return False
    return row not in span and row_times(span.prime, row, form) in span
