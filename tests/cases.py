"""What the tests share: a test case that looks into errors, wrong values, and drawn forms and rows."""

import itertools
import random
import unittest

from freetops.forms import form_of
from freetops.rows import add_rows, row_times, zero_row
from freetops.spans import Span

PRIMES = [number for number in range(2, 98) if all(number % by for by in range(2, number))]

# one value of each kind that "any value" may be, none of them a number, a form, a row or lifts
WRONG = [None, True, False, "", "0", "1 2", "x", [], [1], [[1]], [(1,)], (True,), (1.5,), ("1",),
         (None,), ([1],), (((((1,),),),),), ["span"], Span(5, (0, 0)), (Span(5, (0,)),)]


class Case(unittest.TestCase):
    def raises(self, error, worth, call, *given, **named):
        """The call raises just this error, with these attributes, of the same kinds, too."""
        with self.assertRaises(error) as caught:
            call(*given, **named)
        self.assertIs(type(caught.exception), error)
        self.assertEqual(caught.exception.code, error.__name__)
        for name, value in worth.items():
            found = getattr(caught.exception, name)
            self.assertEqual(found, value)
            self.assertIs(type(found), type(value))

    def same(self, found, wanted):
        """Equal, and of the same kinds at every depth (True is not 1, a list is no tuple)."""
        self.assertEqual(repr(found), repr(wanted))


def drawing(seed):
    return random.Random(seed)


def drawn_form(draw, prime, degree):
    """A form of at most this degree; often a lower one, or the zero form."""
    if draw.random() < 0.15:
        return ()
    top = draw.randrange(degree + 1)
    return form_of(prime, [draw.randrange(prime) for _ in range(top + 1)])


def drawn_row(draw, prime, places, degree):
    return tuple(drawn_form(draw, prime, degree) for _ in range(places))


def drawn_rows(draw, prime, places, many, degree):
    """Rows, some of them repeated, made of others, or zero."""
    rows = []
    for _ in range(many):
        kind = draw.random()
        if kind < 0.1:
            rows.append(zero_row(places))
        elif kind < 0.2 and rows:
            rows.append(draw.choice(rows))
        elif kind < 0.4 and rows:
            one = row_times(prime, draw.choice(rows), drawn_form(draw, prime, 2))
            other = row_times(prime, draw.choice(rows), drawn_form(draw, prime, 1))
            rows.append(add_rows(prime, one, other))
        else:
            rows.append(drawn_row(draw, prime, places, degree))
    return rows


def drawn_lifts(draw, places):
    if draw.random() < 0.3:
        return (0,) * places
    return tuple(draw.randrange(-20, 21) for _ in range(places))


def forms_below(prime, many):
    """All forms with at most so many residues."""
    return [form_of(prime, numbers) for numbers in itertools.product(range(prime), repeat=many)]


def rows_below(prime, places, many):
    """All rows of forms with at most so many residues."""
    return list(itertools.product(forms_below(prime, many), repeat=places))


def all_combinations(prime, rows, many):
    """All combinations of rows with forms of at most so many residues, as a set."""
    found = {zero_row(len(rows[0]))}
    for row in rows:
        parts = [row_times(prime, row, form) for form in forms_below(prime, many)]
        found = {add_rows(prime, one, part) for one in found for part in parts}
    return found
