"""Curves: points that move, the lines through their ways, and the times at which they are at a point."""

from freetops.across import across
from freetops.checks import check_prime
from freetops.division import divisor_of, divisor_with
from freetops.errors import InvalidNumber, InvalidPoint, InvalidRow, InvalidTable, NotOff, NotWhole, Singular, Still
from freetops.formpoints import digits_at, roots
from freetops.forms import add, form_of, is_form, scaled, subtract, value_at
from freetops.numbers import are_residues, inverse, is_residue
from freetops.rows import product_of
from freetops.spans import Span
from freetops.tables import determinant
from freetops.vectors import first_index


class Curve:
    """The curve with the row of a list of forms. It never changes."""

    def __init__(self, prime, forms):
        check_prime(prime)
        if not isinstance(forms, (list, tuple)) or len(forms) < 2:
            raise InvalidRow(0)
        if not all([is_form(prime, form) for form in forms]):
            raise InvalidRow(0)
        divisor = divisor_of(prime, forms)
        if divisor != (1,):
            raise NotWhole(divisor)
        degree = max([len(form) for form in forms]) - 1
        if degree == 0:
            raise Still()
        self.prime = prime
        self.forms = tuple(forms)
        self.degree = degree

    def lines(self):
        """The span of the lines: all rows whose product with the row of the curve is the zero form."""
        return across(Span(self.prime, [0 for _ in self.forms], [self.forms]))

    def point_at(self, time):
        """The point at a residue, or at infinity for None."""
        if time is None:
            return tuple([_coefficient(form, self.degree) for form in self.forms])
        if not is_residue(self.prime, time):
            raise InvalidNumber(time)
        return tuple([value_at(self.prime, form, time) for form in self.forms])

    def meeting_form(self, point):
        """The common divisor of the cross forms at a point."""
        return divisor_of(self.prime, self._cross_forms(point))

    def visits(self, point):
        """The list of the pairs of a time at which the curve is at the point, and how often."""
        crosses = self._cross_forms(point)
        found = roots(self.prime, divisor_of(self.prime, crosses))
        late = self.degree + 1 - max([len(form) for form in crosses])
        if late > 0:
            found = found + [(None, late)]
        return found

    def multipliers(self, point):
        """Forms with which the products of the lines with a point off the curve make 1."""
        meeting = self.meeting_form(point)
        if meeting != (1,):
            raise NotOff(meeting)
        _, found = divisor_with(self.prime, products_with(self, point))
        return tuple(found)

    def _cross_forms(self, point):
        if not is_point(self.prime, len(self.forms), point):
            raise InvalidPoint(0)
        found = []
        for at, form in enumerate(self.forms):
            for before in range(at):
                one = scaled(self.prime, self.forms[before], point[at])
                found.append(subtract(self.prime, one, scaled(self.prime, form, point[before])))
        return found

    def crossings(self):
        """The pairs (point, visits) of the standard points that are visited twice or more."""
        times = [None] + list(range(self.prime))
        points = [standard(self.prime, self.point_at(time)) for time in times]
        found = [(point, self.visits(point)) for point in sorted(set(points))]
        return [(point, visits) for point, visits in found if sum([many for _, many in visits]) > 1]

    def turned(self, table):
        """The curve of the combinations of its forms with the columns of a table of residues."""
        _check_table(self.prime, len(self.forms), table)
        places = range(len(self.forms))
        return Curve(self.prime, [self._turned_form([row[place] for row in table]) for place in places])

    def _turned_form(self, column):
        total = ()
        for form, number in zip(self.forms, column):
            total = add(self.prime, total, scaled(self.prime, form, number))
        return total

    def backward(self):
        """The curve with 1 / x in the place of x."""
        numbers = [[_coefficient(form, self.degree - at) for at in range(self.degree + 1)] for form in self.forms]
        return Curve(self.prime, [form_of(self.prime, row) for row in numbers])

    def begun_at(self, by):
        """The curve with x + by in the place of x."""
        return Curve(self.prime, [digits_at(self.prime, form, by) for form in self.forms])

    def __eq__(self, other):
        return isinstance(other, Curve) and self.prime == other.prime and self.forms == other.forms

    def __repr__(self):
        return f"Curve(p {self.prime}, degree {self.degree})"


def standard(prime, point):
    """The standard point that is the same as a tuple of residues that are not all 0."""
    unit = inverse(prime, point[first_index(point)])
    return tuple([unit * residue % prime for residue in point])


def is_point(prime, places, value):
    """Whether any value is a tuple of so many residues that are not all 0."""
    return are_residues(prime, places, value) and first_index(value) is not None


def products_with(curve, point):
    """The products of the key rows of the lines of a curve with a point."""
    constants = tuple([form_of(curve.prime, [residue]) for residue in point])
    return [product_of(curve.prime, row, constants) for row in curve.lines().key()]


def _coefficient(form, power):
    if power < len(form):
        return form[power]
    return 0


def _check_table(prime, places, table):
    """Raises unless any value is a table of residues that can be turned back."""
    if not isinstance(table, (list, tuple)) or len(table) != places:
        raise InvalidTable(-1)
    for at, row in enumerate(table):
        if not are_residues(prime, places, row):
            raise InvalidTable(at)
    constants = [tuple([form_of(prime, [item]) for item in row]) for row in table]
    if determinant(prime, constants) == ():
        raise Singular()
