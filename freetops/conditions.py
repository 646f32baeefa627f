"""Conditions: which rows meet them, and the spans that they cut."""

from freetops.cutting import condition_digits, cut_rows
from freetops.errors import InvalidCondition
from freetops.numbers import is_number, is_residue
from freetops.rows import is_row
from freetops.spans import Span

MOST_DEPTH = 40


def is_condition(prime, places, value):
    """Whether any value is a condition for rows of so many places."""
    if not isinstance(value, tuple) or len(value) != 3:
        return False
    point, weights, depth = value
    return is_residue(prime, point) and is_row(prime, places, weights) and is_number(depth, 1, MOST_DEPTH)


def meets(prime, row, condition):
    """Whether a row meets a condition."""
    return condition_digits(prime, row, condition) == (0,) * condition[2]


def cut(span, *conditions):
    """The span cut by all these conditions."""
    for at, condition in enumerate(conditions):
        if not is_condition(span.prime, span.places, condition):
            raise InvalidCondition(at)
    rows = span.key()
    for condition in conditions:
        rows, _ = cut_rows(span.prime, span.lifts, rows, condition)
    return Span(span.prime, span.lifts, rows)


def steps(span, condition):
    """For each depth of the condition the lead whose height it raises, or None."""
    if not is_condition(span.prime, span.places, condition):
        raise InvalidCondition(0)
    _, found = cut_rows(span.prime, span.lifts, span.key(), condition)
    return found
