"""Forms seen at residues: digits, multiplicities, roots, and forms through points."""

from freetops.errors import SamePoint
from freetops.forms import add, form_of, multiply, scaled, value_at
from freetops.numbers import inverse


def digits_at(prime, form, point):
    """The digits of a form at a residue, as a form."""
    return form_of(prime, first_digits(prime, form, point, len(form)))


def first_digits(prime, form, point, many):
    """The list of the first digits of a form at a residue, as many of them as are asked for."""
    rest = list(form) + [0] * (many - len(form))
    # each round divides by x - point and leaves the remainder, the next digit, at the index low
    for low in range(many):
        for at in range(len(rest) - 2, low - 1, -1):
            rest[at] = (rest[at] + point * rest[at + 1]) % prime
    return rest[:many]


def from_digits(prime, digits, point):
    """The form with these digits at a residue."""
    form = ()
    for digit in reversed(digits):
        form = add(prime, multiply(prime, form, (-point % prime, 1)), form_of(prime, [digit]))
    return form


def multiplicity(prime, form, point):
    """The multiplicity of a form at a residue; None for the zero form."""
    if not form:
        return None
    many = 0
    for digit in digits_at(prime, form, point):
        if digit != 0:
            break
        many += 1
    return many


def roots(prime, form):
    """The ascending list of the pairs of a root and its multiplicity; [] for the zero form."""
    if not form:
        return []
    points = [point for point in range(prime) if value_at(prime, form, point) == 0]
    return [(point, multiplicity(prime, form, point)) for point in points]


def vanishing_at(prime, points):
    """The product of x - c over a list of residues c, as often as they stand there."""
    form = (1,)
    for point in points:
        form = multiply(prime, form, (-point % prime, 1))
    return form


def form_through(prime, pairs):
    """The form with as few residues as there are pairs that has their second residues as values."""
    form = ()
    vanishing = (1,)
    for point, value in pairs:
        there = value_at(prime, vanishing, point)
        # the form that vanishes at the earlier points vanishes here only if this is one of them
        if there == 0:
            raise SamePoint(point)
        missing = value - value_at(prime, form, point)
        form = add(prime, form, scaled(prime, vanishing, missing * inverse(prime, there)))
        vanishing = multiply(prime, vanishing, (-point % prime, 1))
    return form
