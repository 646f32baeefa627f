"""Deeds: which values are deeds, and the holdings that there are behind them."""

from freetops.curves import Curve
from freetops.errors import Full, InvalidDeed, InvalidName, Taken, UnknownName, WrongKind
from freetops.growth import Growth
from freetops.letters import LetterRoom
from freetops.numbers import is_name
from freetops.points import PointRoom
from freetops.questions import KINDS
from freetops.spans import Span

MOST_HOLDINGS = 24
DEED_LENGTHS = {"span": 4, "letters": 3, "points": 4, "curve": 3, "put": 3, "cut": 3, "lift": 4, "column": 3,
                "point": 4, "lose": 3, "drop": 2}
CHANGED_KINDS = {"put": "span", "cut": "span", "lift": "span", "column": "letters", "point": "points",
                 "lose": "points"}


def check_deeds(deeds):
    """Raises for the first value that is no tuple with the word and the length of a deed."""
    for at, deed in enumerate(deeds):
        if not _is_deed(deed):
            raise InvalidDeed(at)


def _is_deed(value):
    if not isinstance(value, tuple) or len(value) == 0 or not isinstance(value[0], str):
        return False
    return len(value) == DEED_LENGTHS.get(value[0])


def kind_name(holding):
    """The kind of a holding."""
    if isinstance(holding, Span):
        return "span"
    if isinstance(holding, LetterRoom):
        return "letters"
    if isinstance(holding, PointRoom):
        return "points"
    return "curve"


def holding_named(holdings, name):
    """The holding with a name, which may be any value."""
    if not isinstance(name, str) or name not in holdings:
        raise UnknownName(name)
    return holdings[name]


def holding_of_kind(holdings, name, kind):
    """The holding with a name, if it is of this kind."""
    holding = holding_named(holdings, name)
    if kind_name(holding) != kind:
        raise WrongKind(name)
    return holding


def holdings_behind(prime, holdings, deed):
    """The holdings behind a deed. The given holdings stay as they are."""
    word = deed[0]
    name = deed[1]
    found = {other: holdings[other] for other in holdings}
    # the words for new holdings are their kinds
    if word in KINDS:
        _check_new(holdings, name)
        found[name] = _new_holding(prime, deed)
    elif word == "drop":
        holding_named(holdings, name)
        del found[name]
    else:
        found[name] = _changed(holding_of_kind(holdings, name, CHANGED_KINDS[word]), deed)
    return found


def _check_new(holdings, name):
    if not is_name(name):
        raise InvalidName(name)
    if name in holdings:
        raise Taken(name)
    if len(holdings) >= MOST_HOLDINGS:
        raise Full(MOST_HOLDINGS)


def _new_holding(prime, deed):
    word = deed[0]
    if word == "span":
        return Span(prime, deed[2], deed[3])
    if word == "letters":
        return LetterRoom(prime, deed[2])
    if word == "points":
        return PointRoom(prime, deed[2], deed[3])
    return Curve(prime, deed[2])


def _changed(holding, deed):
    """A holding behind a deed that changes it; the given one stays as it is."""
    word = deed[0]
    if word in ("put", "cut", "lift"):
        return _changed_span(holding, deed)
    room = holding.twin()
    if word == "lose":
        room.lose(deed[2])
        return room
    letters = _letters_of(deed[-1])
    if word == "column":
        room.put(*letters)
    else:
        point = deed[2]
        room.put(point, *letters)
    return room


def _changed_span(span, deed):
    growth = Growth(span)
    if deed[0] == "put":
        growth.put(deed[2])
    elif deed[0] == "cut":
        growth.cut(deed[2])
    else:
        growth.lift(deed[2], deed[3])
    return growth.span()


def _letters_of(column):
    """The letters of any value; of one that is no tuple there are none, and a column never has none."""
    if not isinstance(column, tuple):
        return ()
    return column
