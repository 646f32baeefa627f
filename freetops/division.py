"""Quotients, remainders and common divisors of forms."""

from freetops.errors import ZeroForm
from freetops.forms import form_of, monic_of, multiply, scaled, subtract
from freetops.numbers import inverse


def divided(prime, form, by):
    """The pair of the quotient and the remainder of a form by another one."""
    if not by:
        raise ZeroForm()
    if len(form) < len(by):
        return (), form
    degree = len(by) - 1
    lower = by[:degree]
    unit = inverse(prime, by[degree])
    rest = list(form)
    quotient = [0] * (len(form) - degree)
    for shift in reversed(range(len(quotient))):
        factor = rest[shift + degree] * unit % prime
        quotient[shift] = factor
        if factor != 0:
            for at, number in enumerate(lower, shift):
                rest[at] = rest[at] - factor * number
    return tuple(quotient), form_of(prime, rest[:degree])


def remainder_of(prime, form, by):
    """The remainder of a form by a form other than the zero form."""
    _, remainder = divided(prime, form, by)
    return remainder


def divides(prime, by, form):
    """Whether the form `by` divides the other one; the zero form divides itself alone."""
    if not by:
        return not form
    return remainder_of(prime, form, by) == ()


def divisor_of(prime, forms):
    """The common divisor of a list of forms."""
    divisor = ()
    for form in forms:
        while form:
            divisor, form = form, remainder_of(prime, divisor, form)
    return monic_of(prime, divisor)


def divisor_with(prime, forms):
    """The pair of the common divisor and a list of multipliers that make it."""
    divisor = ()
    multipliers = []
    for form in forms:
        divisor, before, now = _divisor_of_two(prime, divisor, form)
        multipliers = [multiply(prime, before, multiplier) for multiplier in multipliers]
        multipliers.append(now)
    unit = inverse(prime, divisor[-1]) if divisor else 1
    return monic_of(prime, divisor), [scaled(prime, multiplier, unit) for multiplier in multipliers]


def _divisor_of_two(prime, one, other):
    """A greatest divisor of two forms, and the multiplier of each of them that makes it."""
    high = (one, (1,), ())
    low = (other, (), (1,))
    while low[0]:
        quotient, _ = divided(prime, high[0], low[0])
        lower = [subtract(prime, a, multiply(prime, quotient, b)) for a, b in zip(high, low)]
        high, low = low, tuple(lower)
    return high


def power_remainder(prime, form, number, by):
    """The remainder of form ** number by another form, for a number from 0 to 10 ** 30."""
    power = remainder_of(prime, (1,), by)
    base = remainder_of(prime, form, by)
    for bit in f"{number:b}":
        power = remainder_of(prime, multiply(prime, power, power), by)
        if bit == "1":
            power = remainder_of(prime, multiply(prime, power, base), by)
    return power
