"""Rows that are apart or free-topped, and the relation of tops that are not."""

from freetops.forms import form_of
from freetops.reducing import key_and_nulls
from freetops.rows import lead_of, level_of, top_of, unit_row


def are_apart(rows, lifts):
    """Whether no row of a list is the zero row and all leads are different."""
    leads = [lead_of(row, lifts) for row in rows]
    return None not in leads and len(set(leads)) == len(leads)


def are_free_topped(prime, rows, lifts):
    """Whether no row of a list is the zero row and no relation holds for the tops."""
    if None in [level_of(row, lifts) for row in rows]:
        return False
    return top_relation(prime, rows, lifts) is None


def top_relation(prime, rows, lifts):
    """Residues, not all 0, with which the tops of rows add up to zeros; None if there are none."""
    # tops are rows of constants, so a row of constants says how they were combined
    constants = [tuple([form_of(prime, [number]) for number in top_of(row, lifts)]) for row in rows]
    marked = [top + unit_row(len(rows), at) for at, top in enumerate(constants)]
    places = len(lifts)
    _, nulls = key_and_nulls(prime, [0 for _ in range(places)], marked)
    if not nulls:
        return None
    return tuple([form[0] if form else 0 for form in nulls[0][places:]])
