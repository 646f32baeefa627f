"""Readings: residues that are read at rows, all 0 at the rows of some spans."""

from freetops.checks import check_prime
from freetops.division import divides, remainder_of
from freetops.errors import InvalidForm, InvalidRow, Unlike, ZeroForm
from freetops.forms import is_form
from freetops.numbers import inverse
from freetops.rows import is_row, product_of


class Reading:
    """The reading with a form and a row. It never changes."""

    def __init__(self, prime, by, row):
        check_prime(prime)
        if not is_form(prime, by):
            raise InvalidForm(0)
        if by == ():
            raise ZeroForm()
        if not isinstance(row, tuple) or not is_row(prime, len(row), row):
            raise InvalidRow(0)
        self.prime = prime
        self.by = by
        self.row = row

    def reading(self, other):
        """The residue that it reads at a row."""
        if not is_row(self.prime, len(self.row), other):
            raise InvalidRow(0)
        rest = remainder_of(self.prime, product_of(self.prime, self.row, other), self.by)
        degree = len(self.by) - 1
        if degree == 0 or len(rest) < degree:
            return 0
        return rest[-1] * inverse(self.prime, self.by[-1]) % self.prime

    def __call__(self, other):
        """The same as `reading`."""
        return self.reading(other)


def reads_zero(reading, span):
    """Whether a reading reads 0 at all rows of a span."""
    if reading.prime != span.prime or len(reading.row) != span.places:
        raise Unlike()
    # with a row all its multiples by powers of x are in the span, and they show the whole remainder
    products = [product_of(span.prime, reading.row, row) for row in span.key()]
    return all([divides(span.prime, reading.by, product) for product in products])
