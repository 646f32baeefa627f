"""Two-sided forms: powers of x, also below 0, times forms; their tables and determinants."""

from freetops.forms import add, is_form, multiply, raised
from freetops.numbers import is_any_number
from freetops.tables import determinant
from freetops.vectors import first_index

ZERO = (0, ())


def is_two_sided(prime, value):
    """Whether any value is a two-sided form."""
    if not isinstance(value, tuple) or len(value) != 2:
        return False
    low, form = value
    if not is_any_number(low) or not is_form(prime, form):
        return False
    if not form:
        return low == 0
    return form[0] != 0


def two_sided(form, low=0):
    """The two-sided form that stands for x ** low times a form."""
    if not form:
        return ZERO
    power = first_index(form)
    return low + power, form[power:]


def add_two(prime, one, other):
    """The sum of two two-sided forms."""
    if one == ZERO:
        return other
    if other == ZERO:
        return one
    low = min(one[0], other[0])
    return two_sided(add(prime, raised_by(one, -low), raised_by(other, -low)), low)


def multiply_two(prime, one, other):
    """The product of two two-sided forms."""
    if one == ZERO or other == ZERO:
        return ZERO
    return one[0] + other[0], multiply(prime, one[1], other[1])


def is_upward(two):
    """Whether a two-sided form has no negative power."""
    return two[0] >= 0


def is_downward(two):
    """Whether a two-sided form has no positive power."""
    return two == ZERO or two[0] + len(two[1]) - 1 <= 0


def multiply_twos(prime, one, other):
    """The product of two tables of two-sided forms, each with n rows of n places."""
    return [tuple([_sum_of_products(prime, row, other, at) for at in range(len(row))]) for row in one]


def _sum_of_products(prime, row, table, at):
    total = ZERO
    for two, below in zip(row, table):
        total = add_two(prime, total, multiply_two(prime, two, below[at]))
    return total


def determinant_two(prime, table):
    """The determinant of a table of two-sided forms with n rows of n places."""
    lows = [lowest_power(row) for row in table]
    # with its own lowest power taken out, each row is a row of forms
    forms = [tuple([raised_by(two, -low) for two in row]) for row, low in zip(table, lows)]
    return two_sided(determinant(prime, forms), sum(lows))


def lowest_power(twos):
    """The lowest power of some two-sided forms; 0 if all of them are the zero."""
    return min([two[0] for two in twos if two != ZERO], default=0)


def raised_by(two, by):
    """The form that is x ** by times a two-sided form, which has no power below -by."""
    if two == ZERO:
        return ()
    return raised(two[1], two[0] + by)
