"""Questions about holdings: which values are questions, and of which kind a holding must be."""

from freetops.curves import is_point
from freetops.numbers import is_any_number, is_name, is_number
from freetops.rows import is_row

KINDS = ("span", "letters", "points", "curve")
QUESTION_LENGTHS = {"member": 3, "near": 4, "whole": 2, "order": 3, "visit": 3}
ASKED_KINDS = {"member": "span", "near": "span", "whole": "span", "order": "letters", "visit": "curve"}
MOST_WITHIN = 200


def is_question(prime, value):
    """Whether any value is a question with a name."""
    if not isinstance(value, tuple) or len(value) < 2 or not isinstance(value[0], str):
        return False
    word = value[0]
    if len(value) != QUESTION_LENGTHS.get(word) or not is_name(value[1]):
        return False
    if word == "member":
        return _is_any_row(prime, value[2])
    if word == "near":
        return _is_any_row(prime, value[2]) and is_number(value[3], -MOST_WITHIN, MOST_WITHIN)
    if word == "order":
        return is_any_number(value[2]) and value[2] >= 0
    if word == "visit":
        return isinstance(value[2], tuple) and is_point(prime, len(value[2]), value[2])
    return True


def _is_any_row(prime, value):
    """Whether any value is a row of any number of places."""
    return isinstance(value, tuple) and is_row(prime, len(value), value)
