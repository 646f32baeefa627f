"""The lines of texts of benches as they are read: what they put in, or what is wrong with them."""

from freetops.curves import Curve
from freetops.deeds import MOST_HOLDINGS
from freetops.errors import InvalidRow, NotWhole, Still
from freetops.letters import MOST_COLUMNS, LetterRoom
from freetops.numbers import is_name, is_number, is_prime
from freetops.points import MOST_BOUND, MOST_HEARD, MOST_WIDTH, PointRoom
from freetops.questions import KINDS
from freetops.spans import Span
from freetops.words import is_plain_number, is_signed_number, row_fault, row_in

FIRST_WORD = "bench"
PART_KINDS = {"row": "span", "column": "letters", "point": "points"}


class BenchLines:
    """The holdings that the lines of a text put in, one line after the other."""

    def __init__(self):
        self.prime = None
        self.holdings = {}
        # of the holding ahead, to which the next line may belong
        self._name = ""
        self._kind = ""

    def take(self, line):
        """Takes the next line; returns the word for what is wrong with it, or None."""
        word, _, rest = line.partition(" ")
        if self.prime is None:
            return self._take_prime(word, rest)
        if word in PART_KINDS:
            return self._take_part(word, rest)
        name, _, more = rest.partition(" ")
        if word not in KINDS or not is_name(name):
            return "form"
        return self._take_holding(word, name, more)

    def _take_prime(self, word, rest):
        if word != FIRST_WORD or not is_signed_number(rest):
            return "form"
        if not is_prime(int(rest)):
            return "prime"
        self.prime = int(rest)
        return None

    def _take_holding(self, kind, name, more):
        fault = _fault_of_holding(self.prime, kind, more)
        if fault == "form":
            return "form"
        if name <= self._name:
            return "order"
        if fault is not None:
            return fault
        if len(self.holdings) >= MOST_HOLDINGS:
            return "many"
        holding = _new_holding(self.prime, kind, more)
        if holding is None:
            return "curve"
        self.holdings[name] = holding
        self._name = name
        self._kind = kind
        return None

    def _take_part(self, word, rest):
        if PART_KINDS[word] != self._kind:
            return "form"
        holding = self.holdings[self._name]
        if word == "column":
            return _take_column(holding, rest)
        if word == "point":
            return _take_point(holding, rest)
        return self._take_row(holding, rest)

    def _take_row(self, span, text):
        fault = row_fault(span.prime, text)
        if fault is not None:
            return fault
        row = row_in(text)
        if len(row) != span.places:
            return "places"
        self.holdings[self._name] = Span(span.prime, span.lifts, span.key() + [row])
        return None


def _fault_of_holding(prime, kind, text):
    """What is wrong with what stands behind the name of a holding: form, number or residue, or None."""
    if kind == "curve":
        return row_fault(prime, text)
    words = text.split(" ")
    if not all([is_signed_number(word) for word in words]):
        return "form"
    if kind == "span":
        return None
    most = (MOST_WIDTH,) if kind == "letters" else (MOST_WIDTH, MOST_BOUND)
    if len(words) != len(most):
        return "form"
    if not all([is_number(int(word), 1, limit) for word, limit in zip(words, most)]):
        return "number"
    return None


def _new_holding(prime, kind, text):
    """The holding that a line without such a fault puts in; None if it would be a curve and is none."""
    if kind == "curve":
        return _curve_of(prime, row_in(text))
    numbers = [int(word) for word in text.split(" ")]
    if kind == "span":
        return Span(prime, numbers)
    if kind == "letters":
        return LetterRoom(prime, numbers[0])
    return PointRoom(prime, numbers[0], numbers[1])


def _curve_of(prime, row):
    try:
        return Curve(prime, row)
    except (InvalidRow, NotWhole, Still):
        return None


def _numbers_fault(prime, least, words):
    """What is wrong with words that should be so many residues or more: form or residue, or None."""
    if len(words) < least or not all([is_plain_number(word) for word in words]):
        return "form"
    if not all([int(word) < prime for word in words]):
        return "residue"
    return None


def _take_column(room, text):
    words = text.split(" ")
    fault = _numbers_fault(room.prime, 1, words)
    if fault is not None:
        return fault
    if len(words) != room.width:
        return "places"
    if len(room) >= MOST_COLUMNS:
        return "many"
    letters = [int(word) for word in words]
    room.put(*letters)
    return None


def _take_point(room, text):
    words = text.split(" ")
    fault = _numbers_fault(room.prime, 2, words)
    if fault is not None:
        return fault
    point, *letters = [int(word) for word in words]
    if len(letters) != room.width:
        return "places"
    if point in room:
        return "same"
    if len(room) >= MOST_HEARD:
        return "many"
    room.put(point, *letters)
    return None
