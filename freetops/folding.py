"""Foldings: a base of given rows, and how each of the two is made of the other."""

from freetops.checks import check_span
from freetops.reducing import key_and_nulls, row_divided
from freetops.rows import unit_row


class Folding:
    """A folding of a list of rows. Its base is the key of their span."""

    def __init__(self, prime, lifts, rows):
        check_span(prime, lifts, rows)
        self.prime = prime
        self.lifts = tuple(lifts)
        places = len(self.lifts)
        marked = [row + unit_row(len(rows), at) for at, row in enumerate(rows)]
        key, nulls = key_and_nulls(prime, self.lifts, marked)
        self._base = [row[:places] for row in key]
        self._ways = [row[places:] for row in key]
        self._nulls = [row[places:] for row in nulls]
        divisions = [row_divided(prime, self.lifts, row, self._base) for row in rows]
        self._backs = [forms for forms, _ in divisions]

    def base(self):
        """The base rows."""
        return list(self._base)

    def ways(self):
        """For each base row, the forms with which the given rows combine to it."""
        return list(self._ways)

    def backs(self):
        """For each given row, the forms with which the base combines to it."""
        return list(self._backs)

    def nulls(self):
        """Rows of forms of which each way to combine the given rows to zero is one combination."""
        return list(self._nulls)


def base_of(prime, lifts, rows):
    """A base of the span of some rows: its key."""
    check_span(prime, lifts, rows)
    key, _ = key_and_nulls(prime, lifts, rows)
    return key
