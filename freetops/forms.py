"""Forms: tuples of residues that are empty or do not end with 0."""

from freetops.numbers import inverse, is_residue


def is_form(prime, value):
    """Whether any value is a form."""
    if not isinstance(value, tuple) or not all([is_residue(prime, item) for item in value]):
        return False
    return value == () or value[-1] != 0


def form_of(prime, numbers):
    """The form whose coefficients a list of numbers stands for, x ** 0 first."""
    residues = [number % prime for number in numbers]
    while residues and residues[-1] == 0:
        residues.pop()
    return tuple(residues)


def degree_of(form):
    """The degree of a form; None for the zero form."""
    if not form:
        return None
    return len(form) - 1


def add(prime, one, other):
    """The sum of two forms."""
    shared = [a + b for a, b in zip(one, other)]
    many = len(shared)
    return form_of(prime, shared + list(one[many:]) + list(other[many:]))


def subtract(prime, one, other):
    """The first form minus the second one."""
    shared = [a - b for a, b in zip(one, other)]
    many = len(shared)
    return form_of(prime, shared + list(one[many:]) + [-b for b in other[many:]])


def multiply(prime, one, other):
    """The product of two forms."""
    if not one or not other:
        return ()
    sums = [0] * (len(one) + len(other) - 1)
    for shift, factor in enumerate(one):
        if factor != 0:
            for at, number in enumerate(other, shift):
                sums[at] = sums[at] + factor * number
    return form_of(prime, sums)


def scaled(prime, form, number):
    """A number times a form."""
    return form_of(prime, [number * residue for residue in form])


def raised(form, by):
    """The form times x ** by."""
    if not form:
        return ()
    return (0,) * by + form


def monic_of(prime, form):
    """The monic form that is a residue times the form; the zero form for the zero form."""
    if not form:
        return ()
    return scaled(prime, form, inverse(prime, form[-1]))


def value_at(prime, form, point):
    """The value of a form at a residue."""
    value = 0
    for residue in reversed(form):
        value = (value * point + residue) % prime
    return value
