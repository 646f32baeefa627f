"""Rows of forms: sums, products and combinations, heights, tops, leads and levels."""

from freetops.forms import add, is_form, multiply, subtract
from freetops.numbers import is_any_number


def is_row(prime, places, value):
    """Whether any value is a row with this number of places, one or more."""
    return are_forms(prime, places, value) and value != ()


def are_forms(prime, many, value):
    """Whether any value is a tuple of so many forms, also of none."""
    if not isinstance(value, tuple) or len(value) != many:
        return False
    return all([is_form(prime, item) for item in value])


def is_lifts(places, value):
    """Whether any value is a tuple of so many numbers."""
    if not isinstance(value, tuple) or len(value) != places:
        return False
    return all([is_any_number(item) for item in value])


def zero_row(places):
    """The row of zero forms."""
    return tuple([() for _ in range(places)])


def unit_row(places, place):
    """The row with 1 at one place and zero forms elsewhere."""
    return tuple([(1,) if at == place else () for at in range(places)])


def add_rows(prime, one, other):
    """The sum of two rows."""
    return tuple([add(prime, a, b) for a, b in zip(one, other)])


def subtract_rows(prime, one, other):
    """The first row minus the second one."""
    return tuple([subtract(prime, a, b) for a, b in zip(one, other)])


def row_times(prime, row, form):
    """A form times a row."""
    return tuple([multiply(prime, form, own) for own in row])


def product_of(prime, one, other):
    """The product of two rows, a form."""
    total = ()
    for a, b in zip(one, other):
        total = add(prime, total, multiply(prime, a, b))
    return total


def combined(prime, forms, rows):
    """The combination of a list of one or more rows with as many forms."""
    total = zero_row(len(rows[0]))
    for form, row in zip(forms, rows):
        total = add_rows(prime, total, row_times(prime, row, form))
    return total


def height_of(row, lifts):
    """The height of a row; None for the zero row."""
    level = level_of(row, lifts)
    if level is None:
        return None
    return level[0]


def top_of(row, lifts):
    """The top of a row; None for the zero row."""
    height = height_of(row, lifts)
    if height is None:
        return None
    # no form reaches above the height, so a coefficient there is the last one of its form
    return tuple([_last_at(form, height - lift) for form, lift in zip(row, lifts)])


def _last_at(form, degree):
    if form and len(form) - 1 == degree:
        return form[-1]
    return 0


def lead_of(row, lifts):
    """The lead of a row; None for the zero row."""
    level = level_of(row, lifts)
    if level is None:
        return None
    return level[1]


def level_of(row, lifts):
    """The pair of height and lead; None for the zero row. Places without a lift do not count."""
    level = None
    for place, (form, lift) in enumerate(zip(row, lifts)):
        height = len(form) - 1 + lift
        if form and (level is None or height >= level[0]):
            level = (height, place)
    return level
