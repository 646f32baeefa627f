"""Spans: all combinations of some rows, told by their keys."""

from freetops.checks import check_span
from freetops.errors import InvalidRow, NotIn, Unlike
from freetops.reducing import key_and_nulls, row_divided
from freetops.rows import is_row, lead_of, level_of, zero_row
from freetops.spantexts import span_parts, span_text
from freetops.tables import unit_table


class Span:
    """The span of a list of rows, with a prime and lifts. It never changes."""

    def __init__(self, prime, lifts, rows=()):
        check_span(prime, lifts, rows)
        self.prime = prime
        self.lifts = tuple(lifts)
        self.places = len(self.lifts)
        key, _ = key_and_nulls(prime, self.lifts, rows)
        levels = [level_of(row, self.lifts) for row in key]
        self._key = key
        self._heights = tuple([height for height, _ in levels])
        self._leads = [lead for _, lead in levels]
        self.rank = len(key)
        self.size = None
        if self.rank == self.places:
            self.size = sum(self._heights) - sum(self.lifts)

    @property
    def heights(self):
        """The heights of the key rows, ascending, with duplicates."""
        return self._heights

    def key(self):
        """The key rows."""
        return list(self._key)

    def leads(self):
        """The leads of the key rows, in their order."""
        return list(self._leads)

    def rest_of(self, row):
        """The rest of a row by the span."""
        if not is_row(self.prime, self.places, row):
            raise InvalidRow(0)
        _, rest = row_divided(self.prime, self.lifts, row, self._key)
        return rest

    def way_of(self, row):
        """The forms with which the key combines to a row of the span."""
        if not is_row(self.prime, self.places, row):
            raise InvalidRow(0)
        forms, rest = row_divided(self.prime, self.lifts, row, self._key)
        if lead_of(rest, self.lifts) is not None:
            raise NotIn(rest)
        return forms

    def is_within(self, other):
        """Whether all rows of the span are in an alike one."""
        if not self._is_like(other):
            raise Unlike()
        return all([row in other for row in self._key])

    def _is_like(self, other):
        return isinstance(other, Span) and self.prime == other.prime and self.lifts == other.lifts

    def text(self):
        """The text of the span."""
        return span_text(self.prime, self.lifts, self._key)

    @staticmethod
    def read(text):
        """The span with a text, in which the rows may be any rows."""
        prime, lifts, rows = span_parts(text)
        return Span(prime, lifts, rows)

    def __contains__(self, row):
        if not is_row(self.prime, self.places, row):
            return False
        return self.rest_of(row) == zero_row(self.places)

    def __add__(self, other):
        if not self._is_like(other):
            raise Unlike()
        return Span(self.prime, self.lifts, self._key + other._key)

    def __eq__(self, other):
        return self._is_like(other) and self._key == other._key

    def __len__(self):
        return len(self._key)

    def __bool__(self):
        return True

    def __str__(self):
        return str(self.text())

    def __repr__(self):
        return f"Span(p {self.prime}, rank {self.rank})"


def all_rows(prime, lifts):
    """The span of all unit rows."""
    nothing = Span(prime, lifts)
    return Span(prime, lifts, unit_table(nothing.places))


def have_same_rows(one, other):
    """Whether two spans have the same prime, the same places and the same rows."""
    if one.prime != other.prime or one.places != other.places:
        return False
    return all([row in other for row in one.key()]) and all([row in one for row in other.key()])
