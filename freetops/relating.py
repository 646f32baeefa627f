"""Relations of rows, rows that are across others, and rows that two lists have in common.

Each row carries marks behind its places. When the rows are made apart and some of them become
zero in their places, their marks say how.
"""

from freetops.reducing import key_and_nulls
from freetops.rows import unit_row, zero_row
from freetops.tables import turned_table, unit_table


def relation_rows(prime, rows):
    """Rows of forms whose span is all relations of a list of one or more rows."""
    marked = [row + unit_row(len(rows), at) for at, row in enumerate(rows)]
    return _marks_of_zero(prime, len(rows[0]), marked)


def across_rows(prime, places, rows):
    """Rows whose span is all rows whose product with each row of a list is the zero form."""
    if not rows:
        return unit_table(places)
    return relation_rows(prime, turned_table(rows))


def meet_rows(prime, places, one, other):
    """Rows whose span is all rows that are combinations of both lists."""
    # where the two cancel, the mark is the combination of the first list
    marked = [row + row for row in one] + [row + zero_row(places) for row in other]
    return _marks_of_zero(prime, places, marked)


def _marks_of_zero(prime, places, marked):
    # lifts do not matter here: which combinations are zero does not depend on them
    _, nulls = key_and_nulls(prime, [0 for _ in range(places)], marked)
    return [row[places:] for row in nulls]
