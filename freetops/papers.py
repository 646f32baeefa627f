"""Papers: the right answers to questions about holdings, and whether any value is one."""

from freetops.checks import check_full, check_number
from freetops.curves import is_point, products_with
from freetops.errors import InvalidPoint, InvalidRow
from freetops.near import is_near_paper, near_paper, nearest
from freetops.numbers import is_any_number
from freetops.rows import are_forms, height_of, is_row, product_of
from freetops.rules import is_rule, least_rule
from freetops.whole import is_whole_paper, whole_paper


def check_asked(holding, question):
    """Raises unless a question fits to the holding that it is asked about."""
    word = question[0]
    if word in ("member", "near") and not is_row(holding.prime, holding.places, question[2]):
        raise InvalidRow(0)
    if word == "order":
        check_number(question[2], 0, len(holding))
    if word == "visit" and not is_point(holding.prime, len(holding.forms), question[2]):
        raise InvalidPoint(0)
    if word == "near":
        check_full(holding)


def paper_of(holding, question):
    """A right paper of a question that fits to a holding."""
    word = question[0]
    if word == "member":
        return _member_paper(holding, question[2])
    if word == "near":
        return near_paper(holding, question[2], within=question[3])
    if word == "whole":
        return whole_paper(holding)
    if word == "order":
        return _order_paper(holding, question[2])
    return _visit_paper(holding, question[2])


def is_paper(holding, question, value):
    """Whether any value is a right paper of a question that fits to a holding."""
    word = question[0]
    if word == "near":
        return is_near_paper(holding, question[2], value, within=question[3])
    if word == "whole":
        return is_whole_paper(holding, value)
    if word == "order" and _is_pair_with(value, "rule"):
        return is_rule(holding, value[1]) and len(value[1]) == question[2] + 1
    if word == "visit" and _is_pair_with(value, "off"):
        return _are_multipliers(holding, question[2], value[1])
    # of each other kind there is at most one right paper
    return _is_same(value, paper_of(holding, question))


def _member_paper(span, row):
    near, rest = nearest(span, row)
    way = span.way_of(near)
    if height_of(rest, span.lifts) is None:
        return "in", way
    return "out", way, rest


def _order_paper(room, order):
    least = room.least_order
    if least <= order:
        # behind the rule of the least order there is no need to look further back
        return "rule", least_rule(room) + (0,) * (order - least)
    span = room.span()
    return "none", tuple([row for row, height in zip(span.key(), span.heights) if height <= order])


def _visit_paper(curve, point):
    meeting = curve.meeting_form(point)
    if meeting == (1,):
        return "off", curve.multipliers(point)
    return "form", meeting


def _is_pair_with(value, word):
    """Whether any value is a pair with this word ahead."""
    return isinstance(value, tuple) and len(value) == 2 and _is_same(value[0], word)


def _are_multipliers(curve, point, value):
    """Whether any value is forms with which the products of the lines with a point make 1."""
    products = products_with(curve, point)
    return are_forms(curve.prime, len(products), value) and product_of(curve.prime, value, products) == (1,)


def _is_same(value, wanted):
    """Whether any value is a paper, also with numbers and tuples at the same depths."""
    if isinstance(wanted, tuple):
        if not isinstance(value, tuple) or len(value) != len(wanted):
            return False
        return all([_is_same(item, other) for item, other in zip(value, wanted)])
    if isinstance(wanted, str):
        return isinstance(value, str) and value == wanted
    return is_any_number(value) and value == wanted
