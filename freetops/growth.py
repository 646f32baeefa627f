"""Growths: spans that change by deeds, which can be taken back and done again."""

from freetops.conditions import is_condition
from freetops.cutting import cut_rows
from freetops.errors import Full, InvalidCondition, InvalidDeed, InvalidRow, NothingLeft
from freetops.lifting import lift_place
from freetops.rows import is_row
from freetops.spans import Span

MOST_DEEDS = 60
DEED_LENGTHS = {"put": 2, "cut": 2, "lift": 3}


class Growth:
    """A growth that begins with a span."""

    def __init__(self, span):
        # the spans and the deeds that were taken back stand behind the others until a new deed
        self._spans = [span]
        self._deeds = []
        self._done = 0

    @property
    def heights(self):
        """The heights of the present span."""
        return self.span().heights

    def span(self):
        """The present span."""
        return self._spans[self._done]

    def first(self):
        """The span of the beginning."""
        return self._spans[0]

    def put(self, row):
        """Puts a row in; returns whether it was new."""
        span = self.span()
        if not is_row(span.prime, span.places, row):
            raise InvalidRow(0)
        self._check_room()
        new = row not in span
        self._do(("put", row), Span(span.prime, span.lifts, span.key() + [row]))
        return new

    def cut(self, condition):
        """Cuts the span; returns the steps."""
        span = self.span()
        if not is_condition(span.prime, span.places, condition):
            raise InvalidCondition(0)
        self._check_room()
        rows, leads = cut_rows(span.prime, span.lifts, span.key(), condition)
        self._do(("cut", condition), Span(span.prime, span.lifts, rows))
        return leads

    def lift(self, place, by=1):
        """Makes one lift greater by a number."""
        span = lift_place(self.span(), place, by)
        self._check_room()
        self._do(("lift", place, by), span)

    def _check_room(self):
        if self._done >= MOST_DEEDS:
            raise Full(MOST_DEEDS)

    def _do(self, deed, span):
        del self._deeds[self._done:]
        del self._spans[self._done + 1:]
        self._deeds.append(deed)
        self._spans.append(span)
        self._done += 1

    def undo(self):
        """Takes the last deed back."""
        if self._done == 0:
            raise NothingLeft()
        self._done -= 1

    def redo(self):
        """Does the deed again that was taken back last."""
        if self._done == len(self._deeds):
            raise NothingLeft()
        self._done += 1

    def history(self):
        """The pair of the numbers of deeds that can be taken back and done again."""
        return self._done, len(self._deeds) - self._done

    def deeds(self):
        """The deeds that can be taken back, in order."""
        return self._deeds[:self._done]

    def twin(self):
        """An independent growth in the same state, with its history."""
        growth = Growth(self._spans[0])
        growth._spans = list(self._spans)
        growth._deeds = list(self._deeds)
        growth._done = self._done
        return growth

    def __repr__(self):
        return f"Growth(p {self.span().prime}, {self._done} deeds)"


def played(span, deeds):
    """A growth that begins with a span, with the deeds of a list done."""
    if not isinstance(deeds, (list, tuple)):
        raise InvalidDeed(-1)
    for at, deed in enumerate(deeds):
        if not _is_deed(deed):
            raise InvalidDeed(at)
    growth = Growth(span)
    for deed in deeds:
        _do_deed(growth, deed)
    return growth


def _is_deed(value):
    """Whether any value is a tuple with the word and the length of a deed."""
    if not isinstance(value, tuple) or len(value) == 0 or not isinstance(value[0], str):
        return False
    return len(value) == DEED_LENGTHS.get(value[0])


def _do_deed(growth, deed):
    if deed[0] == "put":
        growth.put(deed[1])
    elif deed[0] == "cut":
        growth.cut(deed[1])
    else:
        growth.lift(deed[1], deed[2])
