"""Rows made apart: the common ground of tops, foldings and spans.

A row may have more places than there are lifts. The places behind the last lift do not count for
heights and leads, they only go along. So they can record how a row was made of others.
"""

from freetops.forms import add, raised
from freetops.numbers import inverse
from freetops.rows import lead_of, level_of, row_times, subtract_rows


def row_divided(prime, lifts, row, heads):
    """The pair of a row of forms, one for each head, and the rest of a row by heads that are apart.

    The heads combine to the row minus the rest, and at the lead of each head the rest is the
    zero form or has a lower degree than the head.
    """
    leads = [lead_of(head, lifts) for head in heads]
    forms = [() for _ in heads]
    rest = row
    at = _highest_over(lifts, rest, heads, leads)
    while at is not None:
        term = _top_quotient(prime, rest[leads[at]], heads[at][leads[at]])
        rest = subtract_rows(prime, rest, row_times(prime, heads[at], term))
        forms[at] = add(prime, forms[at], term)
        at = _highest_over(lifts, rest, heads, leads)
    return tuple(forms), rest


def _top_quotient(prime, form, by):
    """The highest term of the quotient of a form by another one, as a form."""
    residue = form[-1] * inverse(prime, by[-1]) % prime
    return raised((residue,), len(form) - len(by))


def _highest_over(lifts, row, heads, leads):
    """The index of the head that can take away the highest term of a row; None if none can.

    Only with the highest term first do all terms that come in stand below it, so that it ends.
    """
    highest = None
    found = None
    for at, (head, lead) in enumerate(zip(heads, leads)):
        term = (len(row[lead]) + lifts[lead], lead)
        if len(row[lead]) >= len(head[lead]) and (highest is None or term > highest):
            highest = term
            found = at
    return found


def key_and_nulls(prime, lifts, rows):
    """The pair of the key of some rows, and of the rows that became zero in the places with lifts."""
    key = []
    nulls = []
    for row in rows:
        key, rest = _key_with(prime, lifts, key, row)
        if lead_of(rest, lifts) is None:
            nulls.append(rest)
    return key, nulls


def _key_with(prime, lifts, key, row):
    """The pair of the key of a key and one more row, and of the row that was left over."""
    heads = {lead_of(head, lifts): head for head in key}
    _, rest = row_divided(prime, lifts, row, key)
    lead = lead_of(rest, lifts)
    if lead is None:
        return key, rest
    while lead in heads:
        # a rest has a lower degree at its lead than the head there, so it takes its seat
        head = heads[lead]
        heads[lead] = rest
        _, rest = row_divided(prime, lifts, head, list(heads.values()))
        lead = lead_of(rest, lifts)
    if lead is not None:
        heads[lead] = rest
    return _settled(prime, lifts, list(heads.values())), rest


def _settled(prime, lifts, heads):
    """The key with the span of heads that are apart, ascending."""
    found = []
    for at, head in enumerate(heads):
        # the leads and their degrees stay, so one division of each head is enough
        _, rest = row_divided(prime, lifts, head, heads[:at] + heads[at + 1:])
        level = level_of(rest, lifts)
        unit = inverse(prime, rest[level[1]][-1])
        found.append((level, row_times(prime, rest, (unit,))))
    return [head for _, head in sorted(found)]
