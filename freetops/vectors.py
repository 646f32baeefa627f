"""Vectors, that is, tuples of equally many residues: what some of them span, and all sums that they make."""

from freetops.numbers import inverse


def echelon(prime, vectors):
    """Vectors with the same span, each with a 1 as its first residue other than 0.

    The indexes of these residues ascend, so none of the vectors is a combination of the others.
    """
    heads = []
    for vector in vectors:
        rest = least_sum(prime, vector, heads)
        at = first_index(rest)
        if at is not None:
            unit = inverse(prime, rest[at])
            heads = heads + [tuple([unit * residue % prime for residue in rest])]
            heads = [head for _, head in sorted([(first_index(head), head) for head in heads])]
    return heads


def first_index(vector):
    """The index of the first residue other than 0; None if there is none."""
    for at, residue in enumerate(vector):
        if residue != 0:
            return at
    return None


def least_sum(prime, vector, heads):
    """The first one, ascending, of all sums of a vector and combinations of heads as echelon has them."""
    rest = vector
    for head in heads:
        rest = _moved_by(prime, rest, head, -rest[first_index(head)])
    return rest


def all_sums(prime, vector, heads):
    """The ascending list of all sums of a vector and combinations of heads as echelon has them."""
    found = [vector]
    for head in heads:
        found = [_moved_by(prime, one, head, factor) for one in found for factor in range(prime)]
    return sorted(found)


def combined_vectors(prime, length, factors, vectors):
    """The sum of number times vector, a vector of this length; the shorter list counts."""
    pairs = list(zip(factors, vectors))
    return tuple([sum([factor * vector[at] for factor, vector in pairs]) % prime for at in range(length)])


def _moved_by(prime, vector, head, factor):
    return tuple([(one + factor * other) % prime for one, other in zip(vector, head)])
