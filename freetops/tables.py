"""Tables: lists of rows of equally many places."""

from freetops.division import divided
from freetops.forms import multiply, scaled, subtract
from freetops.rows import combined, unit_row


def unit_table(places):
    """The table with 1 on the diagonal and zero forms elsewhere."""
    return [unit_row(places, place) for place in range(places)]


def multiply_tables(prime, one, other):
    """The product of two tables; the second one has one row or more."""
    return [combined(prime, row, other) for row in one]


def turned_table(table):
    """The table with rows and columns exchanged, of a table with one row or more."""
    return [tuple([row[place] for row in table]) for place in range(len(table[0]))]


def determinant(prime, table):
    """The determinant of a table of as many rows as places; (1,) without rows."""
    rows = list(table)
    sign = 1
    last = (1,)
    while rows:
        at = _pivot_index(rows)
        if at is None:
            return ()
        pivot = rows.pop(at)
        # moving the pivot row up past so many rows changes the sign as often
        if at % 2 == 1:
            sign = -sign
        rows = [_without_first(prime, row, pivot, last) for row in rows]
        last = pivot[0]
    return scaled(prime, last, sign)


def _pivot_index(rows):
    """The index of the first row that does not begin with the zero form, or None."""
    for at, row in enumerate(rows):
        if row[0]:
            return at
    return None


def _without_first(prime, row, pivot, last):
    """One step of the elimination without fractions: the pivot before divides all new forms."""
    found = []
    for own, above in zip(row[1:], pivot[1:]):
        crossed = subtract(prime, multiply(prime, pivot[0], own), multiply(prime, row[0], above))
        quotient, _ = divided(prime, crossed, last)
        found.append(quotient)
    return tuple(found)
