"""Gluings: tables of two-sided forms along a rim, their splittings and their sections."""

from freetops.checks import check_prime
from freetops.counting import rows_up_to
from freetops.errors import InvalidTable, NoSplit, Unlike
from freetops.folding import Folding
from freetops.rows import is_lifts, is_row
from freetops.spans import Span
from freetops.tables import determinant, turned_table
from freetops.twoinverse import inverse_twos
from freetops.twosided import ZERO, determinant_two, is_downward, is_two_sided, lowest_power
from freetops.twosided import multiply_two, multiply_twos, raised_by, two_sided
from freetops.words import with_spaces


class Gluing:
    """The gluing with a table of two-sided forms. It never changes."""

    def __init__(self, prime, table):
        check_prime(prime)
        _check_table(prime, table)
        whole = determinant_two(prime, table)
        if len(whole[1]) != 1:
            raise NoSplit(whole)
        self.prime = prime
        self.width = len(table)
        self._table = list(table)
        # the least power, 0 or greater, that makes all entries upward
        self._power = max([0] + [-lowest_power(row) for row in table])
        self._span = Span(prime, self._lifts(), self._rows())

    def _lifts(self):
        return (-self._power,) * self.width

    def _rows(self):
        return [tuple([raised_by(two, self._power) for two in row]) for row in self._table]

    @property
    def heights(self):
        """The heights of the gluing, ascending, with duplicates."""
        return self._span.heights

    def table(self):
        """The rows of the table."""
        return list(self._table)

    def span(self):
        """The span of the gluing."""
        return self._span

    def splitting(self):
        """A splitting with ascending heights."""
        folding = Folding(self.prime, self._lifts(), self._rows())
        pairs = list(zip(folding.base(), self.heights))
        down = [tuple([two_sided(form, -self._power - height) for form in row]) for row, height in pairs]
        return folding.ways(), self.heights, down

    def is_splitting(self, value):
        """Whether any value is a splitting, whatever the order of its heights."""
        if not isinstance(value, tuple) or len(value) != 3:
            return False
        up, heights, down = value
        if not is_unit_table(self.prime, self.width, up) or not is_lifts(self.width, heights):
            return False
        if not is_downward_table(self.prime, self.width, down):
            return False
        for row, height, own in zip(self._times_table(up), heights, down):
            if row != tuple([multiply_two(self.prime, two, (height, (1,))) for two in own]):
                return False
        # behind this the rows of down are no wider than those of up times the table
        return is_constant(determinant_two(self.prime, down))

    def _times_table(self, up):
        """A table of forms times the table."""
        return multiply_twos(self.prime, two_sided_table(up), self._table)

    def sections(self, *, within):
        """All rows that are combinations of the table and have no power above x ** within."""
        for row in rows_up_to(self._span, within=within):
            yield tuple([two_sided(form, -self._power) for form in row])

    def __add__(self, other):
        if not self._goes_with(other):
            raise Unlike()
        rows = [row + (ZERO,) * other.width for row in self._table]
        return Gluing(self.prime, rows + [(ZERO,) * self.width + row for row in other._table])

    def __mul__(self, other):
        if not self._goes_with(other):
            raise Unlike()
        pairs = [(row, below) for row in self._table for below in other._table]
        return Gluing(self.prime, [_row_of_products(self.prime, row, below) for row, below in pairs])

    def _goes_with(self, other):
        return isinstance(other, Gluing) and self.prime == other.prime

    def moved(self, by):
        """The gluing with all entries times x ** by."""
        return Gluing(self.prime, [_row_of_products(self.prime, row, ((by, (1,)),)) for row in self._table])

    def about(self):
        """The gluing with the inverse of the table, its rows and columns exchanged."""
        return Gluing(self.prime, turned_table(inverse_twos(self.prime, self._table)))

    def __eq__(self, other):
        return self._goes_with(other) and self._table == other._table

    def __repr__(self):
        return f"Gluing(p {self.prime}, heights {with_spaces(self.heights)})"


def two_sided_table(table):
    """A table of forms as one of two-sided forms."""
    return [tuple([two_sided(form) for form in row]) for row in table]


def is_constant(two):
    """Whether a two-sided form is a residue other than 0."""
    return two[0] == 0 and len(two[1]) == 1


def is_unit_table(prime, width, value):
    """Whether any value is a table of forms whose determinant is a residue other than 0."""
    if not isinstance(value, (list, tuple)) or len(value) != width:
        return False
    if not all([is_row(prime, width, row) for row in value]):
        return False
    return len(determinant(prime, value)) == 1


def is_downward_table(prime, width, value):
    """Whether any value is a table of downward two-sided forms."""
    if not isinstance(value, (list, tuple)) or len(value) != width:
        return False
    if not all([_is_row_of_twos(prime, width, row) for row in value]):
        return False
    return all([is_downward(two) for row in value for two in row])


def _is_row_of_twos(prime, width, value):
    if not isinstance(value, tuple) or len(value) != width:
        return False
    return all([is_two_sided(prime, item) for item in value])


def _check_table(prime, table):
    if not isinstance(table, (list, tuple)) or len(table) == 0:
        raise InvalidTable(-1)
    for at, row in enumerate(table):
        if not _is_row_of_twos(prime, len(table), row):
            raise InvalidTable(at)


def _row_of_products(prime, one, other):
    """The products of all entries of two rows, in the order of the one and then of the other row."""
    return tuple([multiply_two(prime, two, below) for two in one for below in other])
