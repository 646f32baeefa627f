"""Numbers, names, primes and residues."""

LETTERS = "abcdefghijklmnopqrstuvwxyz"
MOST_LETTERS = 6
LEAST_PRIME = 2
MOST_PRIME = 97


def is_any_number(value):
    """Whether any value is a number; True and False are none."""
    return isinstance(value, int) and not isinstance(value, bool)


def is_number(value, least, most):
    """Whether any value is a number from least to most."""
    return is_any_number(value) and least <= value <= most


def is_name(value):
    """Whether any value is a name: 1 to 6 lowercase letters."""
    if not isinstance(value, str) or not 1 <= len(value) <= MOST_LETTERS:
        return False
    return all([letter in LETTERS for letter in value])


def is_prime(value):
    """Whether any value is a prime from 2 to 97."""
    if not is_number(value, LEAST_PRIME, MOST_PRIME):
        return False
    return all([value % divisor != 0 for divisor in range(2, value)])


def is_residue(prime, value):
    """Whether any value is a number from 0 to prime - 1."""
    return is_number(value, 0, prime - 1)


def are_residues(prime, many, value):
    """Whether any value is a tuple of so many residues."""
    if not isinstance(value, tuple) or len(value) != many:
        return False
    return all([is_residue(prime, item) for item in value])


def inverse(prime, residue):
    """The residue whose product with a residue other than 0 is 1."""
    high = prime
    low = residue % prime
    before = 0
    now = 1
    # now times the residue is always low; so when low is 1, now is the inverse
    while low > 1:
        quotient = high // low
        high, low = low, high - quotient * low
        before, now = now, before - quotient * now
    return now % prime
