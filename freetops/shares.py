"""Shares: the secrets of answers, and heard points that lie in all answers, or in none."""

from freetops.answers import answers, faults_of
from freetops.errors import NoAnswer, SamePoint
from freetops.forms import value_at


def secrets(room, *, faults):
    """The ascending list of the secrets of the answers within so many faults."""
    found = [_secret_of(room, answer) for answer in _answers_of_shares(room, faults)]
    return sorted(set(found))


def sure_liars(room, *, faults):
    """The ascending list of the heard points that are faults of each answer."""
    many, counts = _counts_of_faults(room, faults)
    return [point for point, count in counts if count == many]


def sure_points(room, *, faults):
    """The ascending list of the heard points that are faults of no answer."""
    _, counts = _counts_of_faults(room, faults)
    return [point for point, count in counts if count == 0]


def _answers_of_shares(room, faults):
    if 0 in room:
        raise SamePoint(0)
    return answers(room, faults=faults)


def _secret_of(room, answer):
    return tuple([value_at(room.prime, form, 0) for form in answer])


def _counts_of_faults(room, faults):
    """How many answers there are, and the pairs of heard point and number of answers with this fault."""
    found = _answers_of_shares(room, faults)
    if not found:
        raise NoAnswer()
    counts = {point: 0 for point, _ in sorted(room.heard())}
    for answer in found:
        for point in faults_of(room, answer):
            counts[point] = counts[point] + 1
    return len(found), [(point, counts[point]) for point in counts]
