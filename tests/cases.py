"""What the tests share: a test case that looks into errors, wrong values, and drawn forms and rows."""

import itertools
import random
import unittest

from freetops.forms import form_of, multiply
from freetops.rows import add_rows, row_times, zero_row
from freetops.spans import Span

PRIMES = [number for number in range(2, 98) if all(number % by for by in range(2, number))]

# one value of each kind that "any value" may be, none of them a number, a form, a row or lifts
WRONG = [None, True, False, "", "0", "1 2", "x", [], [1], [[1]], [(1,)], (True,), (1.5,), ("1",),
         (None,), ([1],), (((((1,),),),),), ["span"], Span(5, (0, 0)), (Span(5, (0,)),)]


class Case(unittest.TestCase):
    def raises(self, error, worth, call, *given, **named):
        """The call raises just this error, with these attributes, of the same kinds, too."""
        with self.assertRaises(error) as caught:
            call(*given, **named)
        self.assertIs(type(caught.exception), error)
        self.assertEqual(caught.exception.code, error.__name__)
        for name, value in worth.items():
            found = getattr(caught.exception, name)
            self.assertEqual(found, value)
            self.assertIs(type(found), type(value))

    def same(self, found, wanted):
        """Equal, and of the same kinds at every depth (True is not 1, a list is no tuple)."""
        self.assertEqual(repr(found), repr(wanted))


def drawing(seed):
    return random.Random(seed)


def drawn_form(draw, prime, degree):
    """A form of at most this degree; often a lower one, or the zero form."""
    if draw.random() < 0.15:
        return ()
    top = draw.randrange(degree + 1)
    return form_of(prime, [draw.randrange(prime) for _ in range(top + 1)])


def drawn_row(draw, prime, places, degree):
    return tuple(drawn_form(draw, prime, degree) for _ in range(places))


def drawn_rows(draw, prime, places, many, degree):
    """Rows, some of them repeated, made of others, or zero."""
    rows = []
    for _ in range(many):
        kind = draw.random()
        if kind < 0.1:
            rows.append(zero_row(places))
        elif kind < 0.2 and rows:
            rows.append(draw.choice(rows))
        elif kind < 0.4 and rows:
            one = row_times(prime, draw.choice(rows), drawn_form(draw, prime, 2))
            other = row_times(prime, draw.choice(rows), drawn_form(draw, prime, 1))
            rows.append(add_rows(prime, one, other))
        else:
            rows.append(drawn_row(draw, prime, places, degree))
    return rows


def drawn_lifts(draw, places):
    if draw.random() < 0.3:
        return (0,) * places
    return tuple(draw.randrange(-20, 21) for _ in range(places))


def drawn_span(draw, primes=tuple(PRIMES), places=None, degree=4):
    """A span of any rank, of more or fewer rows than places."""
    prime = draw.choice(primes)
    many = places or draw.randrange(1, 7)
    return Span(prime, drawn_lifts(draw, many), drawn_rows(draw, prime, many, draw.randrange(9), degree))


def thin_span(draw, primes=tuple(PRIMES), degree=3):
    """A span that is often not full, and often not whole."""
    prime = draw.choice(primes)
    places = draw.randrange(1, 5)
    rows = [drawn_row(draw, prime, places, degree) for _ in range(draw.randrange(places + 1))]
    rows = [row_times(prime, row, drawn_form(draw, prime, 2) or (1,)) for row in rows]
    return Span(prime, drawn_lifts(draw, places), rows)


def full_span(draw, primes=tuple(PRIMES), degree=4, places=None):
    while True:
        prime = draw.choice(primes)
        many = places or draw.randrange(1, 7)
        rows = [drawn_row(draw, prime, many, degree) for _ in range(many)]
        span = Span(prime, drawn_lifts(draw, many), rows)
        if span.size is not None:
            return span


def drawn_condition(draw, prime, places, depth=6, degree=4):
    return draw.randrange(prime), drawn_row(draw, prime, places, degree), draw.randrange(1, depth + 1)


def row_in(draw, span, degree=3):
    """A row of the span."""
    row = zero_row(span.places)
    for head in span.key():
        row = add_rows(span.prime, row, row_times(span.prime, head, drawn_form(draw, span.prime, degree)))
    return row


def power_of(prime, form, number):
    """form ** number, multiplied out."""
    power = (1,)
    for _ in range(number):
        power = multiply(prime, power, form)
    return power


def levels_of(span):
    return list(zip(span.heights, span.leads()))


def state_of(span):
    """All that tells a span, to see that it has not changed."""
    return span.prime, span.lifts, span.key()


def bent(value):
    """Values like a tuple or list, at any depth, but with one place bent."""
    yield from (None, True, 7, "row", [])
    if isinstance(value, (tuple, list)):
        make = type(value)
        yield value[:-1] if value else make([0])
        yield value + make([()])
        if make is tuple:
            yield list(value)
        for at, item in enumerate(value):
            for other in bent(item):
                yield value[:at] + make([other]) + value[at + 1:]
    elif isinstance(value, str):
        yield value + "s"
    elif isinstance(value, int):
        yield from (value + 1, value == 1, -1, 100)


def forms_below(prime, many):
    """All forms with at most so many residues."""
    return [form_of(prime, numbers) for numbers in itertools.product(range(prime), repeat=many)]


def rows_below(prime, places, many):
    """All rows of forms with at most so many residues."""
    return list(itertools.product(forms_below(prime, many), repeat=places))


def all_combinations(prime, rows, many):
    """All combinations of rows with forms of at most so many residues, as a set."""
    found = {zero_row(len(rows[0]))}
    for row in rows:
        parts = [row_times(prime, row, form) for form in forms_below(prime, many)]
        found = {add_rows(prime, one, part) for one in found for part in parts}
    return found
