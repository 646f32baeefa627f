"""The rules of rooms of letters, the columns that they tell, and columns far away."""

from freetops.checks import check_number, listed_many
from freetops.division import power_remainder
from freetops.errors import Undetermined
from freetops.forms import raised
from freetops.numbers import are_residues
from freetops.vectors import all_sums, combined_vectors, echelon, least_sum

MOST_FAR = 10 ** 30


def is_rule(room, value):
    """Whether any value is a rule of the room, of whichever order."""
    if not isinstance(value, tuple) or not 1 <= len(value) <= len(room) + 1:
        return False
    if not are_residues(room.prime, len(value), value) or value[0] != 1:
        return False
    columns = room.columns()
    behind = range(len(value) - 1, len(columns))
    return all([_told_by(room, value, columns[:at]) == columns[at] for at in behind])


def free_rules(room, *, order):
    """The number n such that there are p ** n rules of this order; None if there are none."""
    check_number(order, 0, len(room))
    rule, changes = _rule_and_changes(room, order)
    if rule is None:
        return None
    return len(changes)


def rules(room, *, order):
    """The ascending list of the rules of an order."""
    check_number(order, 0, len(room))
    rule, changes = _rule_and_changes(room, order)
    if rule is None:
        return []
    listed_many(room.prime, len(changes))
    return all_sums(room.prime, rule, changes)


def told_columns(room, *, order):
    """The ascending list of the columns that rules of an order tell."""
    check_number(order, 0, len(room))
    rule, changes = _rule_and_changes(room, order)
    if rule is None:
        return []
    spread = _told_changes(room, changes)
    listed_many(room.prime, len(spread))
    return all_sums(room.prime, _told_by(room, rule, room.columns()), spread)


def least_rule(room):
    """The first one, ascending, of the rules of the least order."""
    rule, changes = _rule_and_changes(room, room.least_order)
    return least_sum(room.prime, rule, changes)


def sure_column(room):
    """The only column that the rules of the least order tell; None if they tell several."""
    rule, changes = _rule_and_changes(room, room.least_order)
    if _told_changes(room, changes):
        return None
    return _told_by(room, rule, room.columns())


def far_column(room, number):
    """The column with an index of the room that is continued by its only rule of the least order."""
    check_number(number, 0, MOST_FAR)
    rule, changes = _rule_and_changes(room, room.least_order)
    if changes:
        raise Undetermined(len(changes))
    # the rule read backward is a form modulo which powers of x stand for columns
    power = power_remainder(room.prime, (0, 1), number, tuple(reversed(rule)))
    return combined_vectors(room.prime, room.width, power, room.columns())


def _rule_and_changes(room, order):
    """The pair of a rule of an order and the vectors that can be added to it; (None, []) if there is none.

    The vectors are as echelon has them. The rules are the first forms of the rows of the span that
    are low enough and have the constant coefficient 1 there.
    """
    span = room.span()
    found = []
    for row, height in zip(span.key(), span.heights):
        for power in range(order - height + 1):
            form = raised(row[0], power)
            found.append(form + (0,) * (order + 1 - len(form)))
    heads = echelon(room.prime, found)
    if not heads or heads[0][0] == 0:
        return None, []
    return heads[0], heads[1:]


def _told_by(room, rule, columns):
    """The column that a rule tells behind some columns."""
    return combined_vectors(room.prime, room.width, [-residue for residue in rule[1:]], columns[::-1])


def _told_changes(room, changes):
    """Vectors, as echelon has them, whose combinations are added to the told column by these changes."""
    columns = room.columns()
    return echelon(room.prime, [_told_by(room, change, columns) for change in changes])
