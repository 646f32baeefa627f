"""What conditions do to rows that are apart: the rows of a cut span, and the leads that are raised."""

from freetops.formpoints import first_digits
from freetops.numbers import inverse
from freetops.rows import level_of, product_of, row_times, subtract_rows


def condition_digits(prime, row, condition):
    """As many residues as the condition is deep; the row meets it if all of them are 0."""
    point, weights, depth = condition
    return tuple(first_digits(prime, product_of(prime, row, weights), point, depth))


def cut_rows(prime, lifts, rows, condition):
    """The pair of the rows that a condition leaves of rows that are apart, and of its steps.

    The rows that it leaves are apart, too, and ascending by level.
    """
    heads = sorted([(level_of(row, lifts), row, condition_digits(prime, row, condition)) for row in rows])
    found = []
    for at in range(condition[2]):
        pivot = _lowest_with_digit(heads, at)
        if pivot is None:
            found.append(None)
        else:
            found.append(heads[pivot][0][1])
            heads = _heads_after(prime, condition[0], heads, pivot, at)
    return [head[1] for head in heads], found


def _lowest_with_digit(heads, at):
    """The index of the lowest head with a digit other than 0 at an index; None if there is none."""
    for index, head in enumerate(heads):
        if head[2][at] != 0:
            return index
    return None


def _heads_after(prime, point, heads, pivot, at):
    """The heads whose digit at an index is 0: the pivot is raised, and takes the digits of the others away.

    No head below the pivot has such a digit, so the levels of all the others stay.
    """
    _, row, digits = heads[pivot]
    unit = inverse(prime, digits[at])
    found = []
    for index, head in enumerate(heads):
        factor = head[2][at] * unit % prime
        if index == pivot:
            found.append(_raised_head(prime, point, head))
        elif factor == 0:
            found.append(head)
        else:
            lower = subtract_rows(prime, head[1], row_times(prime, row, (factor,)))
            left = [(own - factor * other) % prime for own, other in zip(head[2], digits)]
            found.append((head[0], lower, tuple(left)))
    return sorted(found)


def _raised_head(prime, point, head):
    """The head times x - point; the digits at the point move up by one."""
    (height, lead), row, digits = head
    return (height + 1, lead), row_times(prime, row, (-point % prime, 1)), (0,) + digits[:-1]
