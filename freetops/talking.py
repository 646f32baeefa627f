"""The answers to lines about the holdings of a bench."""

from freetops.answers import answers
from freetops.deeds import holding_named, holding_of_kind, kind_name
from freetops.formtexts import read_row, write_row
from freetops.words import is_plain_number, with_spaces

NONE = "none"
UNKNOWN = "unknown"


def answer_about(holdings, line):
    """The answer to a line that asks about holdings, or that is none of the lines that are known."""
    if line == "names":
        return " ".join(sorted(holdings)) if holdings else NONE
    word, _, rest = line.partition(" ")
    name, _, more = rest.partition(" ")
    if "\n" in line or name == "":
        return UNKNOWN
    if word == "rest" and more != "":
        return _told_rest(holding_of_kind(holdings, name, "span"), more)
    if word == "answers" and is_plain_number(more):
        return _told_answers(holding_of_kind(holdings, name, "points"), int(more))
    if rest == name:
        return _answer_to_word(holdings, word, name)
    return UNKNOWN


def _answer_to_word(holdings, word, name):
    """The answer to a line of a word and a name."""
    if word == "kind":
        return kind_name(holding_named(holdings, name))
    if word == "heights":
        return _told_heights(holding_named(holdings, name))
    if word == "size":
        size = holding_of_kind(holdings, name, "span").size
        return NONE if size is None else str(size)
    if word == "order":
        return str(holding_of_kind(holdings, name, "letters").least_order)
    return UNKNOWN


def _told_heights(holding):
    # a curve has no heights of its own
    shown = holding.lines() if kind_name(holding) == "curve" else holding
    return with_spaces(shown.heights) if shown.heights else NONE


def _told_rest(span, text):
    return write_row(span.rest_of(read_row(span.prime, text)))


def _told_answers(room, faults):
    return str(len(answers(room, faults=faults)))
