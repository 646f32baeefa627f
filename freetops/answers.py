"""Answers of rooms of points: forms that have the heard letters as values, but for a few faults."""

from freetops.counting import rows_up_to
from freetops.division import divided
from freetops.errors import InvalidNumber
from freetops.forms import is_form, value_at
from freetops.numbers import is_any_number


def is_answer(room, value, *, faults):
    """Whether any value is an answer within so many faults."""
    most = _counted(room, faults)
    if not isinstance(value, tuple) or len(value) != room.width:
        return False
    if not all([is_form(room.prime, item) and len(item) <= room.bound for item in value]):
        return False
    return len(faults_of(room, value)) <= most


def faults_of(room, answer):
    """The ascending list of the faults of an answer."""
    found = []
    for point, column in room.heard():
        values = [value_at(room.prime, form, point) for form in answer]
        if values != list(column):
            found.append(point)
    return sorted(found)


def answers(room, *, faults):
    """The ascending list of the answers within so many faults."""
    most = _counted(room, faults)
    return _answers_within(room, room.span(), most)


def fewest_faults(room):
    """The least number of faults within which there is an answer."""
    span = room.span()
    faults = 0
    # with all heard points as faults any forms are an answer, so that it ends
    while not _answers_within(room, span, faults):
        faults += 1
    return faults


def _counted(room, faults):
    """The number that any value counts as."""
    if not is_any_number(faults) or faults < 0:
        raise InvalidNumber(faults)
    return min(faults, len(room))


def _answers_within(room, span, faults):
    found = []
    most = faults + room.bound - 1
    for row in rows_up_to(span, within=most):
        answer = _answer_of(room, row)
        if answer is not None:
            found.append(answer)
    return sorted(set(found))


def _answer_of(room, row):
    """The quotients of a row by its first form; None if they are no answer."""
    if not row[0]:
        return None
    quotients = []
    for form in row[1:]:
        quotient, remainder = divided(room.prime, form, row[0])
        if remainder or len(quotient) > room.bound:
            return None
        quotients.append(quotient)
    return tuple(quotients)
