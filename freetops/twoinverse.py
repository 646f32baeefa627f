"""Inverses of tables of two-sided forms."""

from freetops.folding import Folding
from freetops.forms import raised
from freetops.reducing import row_divided
from freetops.rows import combined, height_of, row_times, unit_row
from freetops.twosided import lowest_power, raised_by, two_sided


def inverse_twos(prime, table):
    """The inverse of a table of two-sided forms whose determinant has exactly one term."""
    places = len(table)
    lifts = (0,) * places
    low = min([lowest_power(row) for row in table])
    folding = Folding(prime, lifts, [tuple([raised_by(two, -low) for two in row]) for row in table])
    base = folding.base()
    # the determinant of the base is a residue times this power of x, so this power of x times any
    # unit row is a combination of the base
    size = sum([height_of(row, lifts) for row in base])
    found = []
    for place in range(places):
        forms, _ = row_divided(prime, lifts, row_times(prime, unit_row(places, place), raised((1,), size)), base)
        row = combined(prime, forms, folding.ways())
        found.append(tuple([two_sided(form, -low - size) for form in row]))
    return found
