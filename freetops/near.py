"""The nearest row of a span, and papers that say how near it is."""

from freetops.checks import check_full
from freetops.division import remainder_of
from freetops.errors import InvalidRow
from freetops.forms import is_form, raised
from freetops.opposites import least_form, opposite
from freetops.readings import Reading
from freetops.rows import height_of, is_row, product_of, row_times, subtract_rows


def nearest(span, row):
    """The pair of a row of the span and the rest, whose sum is the row."""
    rest = span.rest_of(row)
    return subtract_rows(span.prime, row, rest), rest


def near_paper(span, row, *, within):
    """The paper that says that a row of the span is so near, or that none is."""
    if not is_row(span.prime, span.places, row):
        raise InvalidRow(0)
    check_full(span)
    near, rest = nearest(span, row)
    if _is_low(rest, span.lifts, within):
        return "row", near, rest
    form = least_form(span)
    return "reading", form, _telling_row(span, row, form, within)


def _is_low(row, lifts, most):
    """Whether a row is the zero row or has a height of at most so much."""
    height = height_of(row, lifts)
    return height is None or height <= most


def _telling_row(span, row, form, within):
    """A row of the opposite, low enough, whose reading reads a residue other than 0 at the row."""
    around = opposite(span, by=form)
    for head, height in zip(around.key(), around.heights):
        rest = remainder_of(span.prime, product_of(span.prime, head, row), form)
        # with the least power that lifts the remainder to where a reading reads it
        power = len(form) - 1 - len(rest)
        if rest and height + power <= _most_height(form, within):
            return row_times(span.prime, head, raised((1,), power))
    return None


def _most_height(form, within):
    """How high a row may be whose reading reads 0 at all rows up to a height."""
    return len(form) - 1 - within - 2


def is_near_paper(span, row, value, *, within):
    """Whether any value is a near paper of a row by a full span."""
    if not isinstance(value, tuple) or len(value) != 3:
        return False
    word, one, other = value
    if word == "row":
        return _is_near_pair(span, row, one, other, within)
    return word == "reading" and _is_far_pair(span, row, one, other, within)


def _is_near_pair(span, row, near, rest, within):
    if not is_row(span.prime, span.places, near) or not is_row(span.prime, span.places, rest):
        return False
    return (near, rest) == nearest(span, row) and _is_low(rest, span.lifts, within)


def _is_far_pair(span, row, form, weights, within):
    if not is_form(span.prime, form) or form != least_form(span):
        return False
    around = opposite(span, by=form)
    if weights not in around or not _is_low(weights, around.lifts, _most_height(form, within)):
        return False
    telling = Reading(span.prime, form, weights)
    return telling.reading(row) != 0
