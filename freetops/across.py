"""The across of a span: the rows whose products with all its rows are zero."""

from freetops.relating import across_rows
from freetops.spans import Span


def across(span):
    """The across of a span."""
    lifts = [-lift for lift in span.lifts]
    return Span(span.prime, lifts, across_rows(span.prime, span.places, span.key()))
