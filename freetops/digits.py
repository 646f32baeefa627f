"""Digits of forms: the forms at which a row has the zero form as its value, found digit by digit."""

from freetops.errors import InvalidRow
from freetops.forms import add, form_of, raised, scaled, value_at
from freetops.vectors import first_index


def residual(prime, row, prefix):
    """The residual of a prefix."""
    _check_other_than_zero(row)
    found = _without_powers(row)
    for digit in prefix:
        found = _residual_behind(prime, found, digit)
    return found


def next_digits(prime, row, prefix):
    """The ascending list of the next digits of a prefix."""
    return _digits_of(prime, residual(prime, row, prefix))


def live_prefixes(prime, row, *, bound):
    """The ascending list of the live prefixes of at most so many digits."""
    level = [((), residual(prime, row, ()))]
    found = [()]
    for _ in range(bound):
        level = _next_level(prime, level)
        found = found + [prefix for prefix, _ in level]
    return sorted(found)


def forms_of_row(prime, row, *, bound):
    """The ascending list of the forms, as short as that, at which the row has the zero form as its value."""
    level = [((), residual(prime, row, ()))]
    for _ in range(bound):
        level = _next_level(prime, level)
    return sorted([form_of(prime, prefix) for prefix, own in level if own[0] == ()])


def _check_other_than_zero(row):
    if all([form == () for form in row]):
        raise InvalidRow(0)


def _next_level(prime, level):
    """The pairs of prefix and residual with one digit more."""
    found = []
    for prefix, own in level:
        for digit in _digits_of(prime, own):
            found.append((prefix + (digit,), _residual_behind(prime, own, digit)))
    return found


def _digits_of(prime, own):
    """The residues at which the constant coefficients of a residual, read as a form, have the value 0."""
    constants = form_of(prime, [form[0] if form else 0 for form in own])
    return [digit for digit in range(prime) if value_at(prime, constants, digit) == 0]


def _residual_behind(prime, own, digit):
    """The residual of a prefix with one digit more."""
    forms = list(own)
    # digit + Y in the place of Y, as digits_at does it for forms; then x times Y in the place of Y
    for low in range(len(forms)):
        for at in range(len(forms) - 2, low - 1, -1):
            forms[at] = add(prime, forms[at], scaled(prime, forms[at + 1], digit))
    return _without_powers([raised(form, at) for at, form in enumerate(forms)])


def _without_powers(row):
    """A row divided by the greatest power of x that divides all its forms."""
    power = min([first_index(form) for form in row if form])
    return tuple([form[power:] for form in row])
