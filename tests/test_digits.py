import itertools
import unittest

from cases import PRIMES, Case, drawing, drawn_form, drawn_row, forms_below, power_of
from freetops.digits import forms_of_row, live_prefixes, next_digits, residual
from freetops.errors import InvalidRow
from freetops.forms import add, form_of, multiply, raised
from freetops.rows import is_row, zero_row
from freetops.vanishing import row_value

# (Y - 1 - 2 x)(Y - 2 - 6 x) for the prime 7
ROW = ((2, 3, 5), (4, 6), (1,))


def product_row(prime, forms):
    """The row that is read as the product of Y - g over some forms g."""
    row = ((1,),)
    for form in forms:
        lower = [multiply(prime, own, form_of(prime, [-number for number in form])) for own in row]
        row = tuple(add(prime, a, b) for a, b in zip(lower + [()], ((),) + row))
    return row


def residual_by_definition(prime, row, prefix):
    """Multiplied out: prefix + x ** n Y in the place of Y, divided by the greatest power of x."""
    total = [()] * len(row)
    power = [(1,)]
    for own in row:
        for at, form in enumerate(power):
            total[at] = add(prime, total[at], multiply(prime, own, form))
        next_power = [()] * (len(power) + 1)
        for at, form in enumerate(power):
            next_power[at] = add(prime, next_power[at], multiply(prime, form, form_of(prime, prefix)))
            next_power[at + 1] = add(prime, next_power[at + 1], raised(form, len(prefix)))
        power = next_power
    while not any(form[:1] not in ((), (0,)) for form in total):
        total = [form[1:] for form in total]
    return tuple(total)


def digits_by_definition(prime, row, prefix):
    own = residual_by_definition(prime, row, prefix)
    constants = [form[0] if form else 0 for form in own]
    return [z for z in range(prime) if sum(number * z ** j for j, number in enumerate(constants)) % prime == 0]


def drawn_other_row(draw, prime, degree=3):
    """A row other than the zero row, often one with forms as roots."""
    if draw.random() < 0.5:
        row = product_row(prime, [drawn_form(draw, prime, degree) for _ in range(draw.randrange(1, 4))])
        power = raised((1,), draw.randrange(3))
        return tuple(multiply(prime, form, power) for form in row)
    while True:
        row = drawn_row(draw, prime, draw.randrange(1, 5), degree)
        if row != zero_row(len(row)):
            return row


class Digits(Case):
    def test_small_residuals(self):
        self.same(residual(7, ROW, ()), ROW)
        self.same(residual(7, ((0, 0, 3), (0, 1)), ()), ((0, 3), (1,)))
        # 1 + x Y in the place of Y: x Y - 2 x times x Y - 1 - 6 x, divided by x
        self.same(residual(7, ROW, (1,)), ((2, 5), (6, 6), (0, 1)))
        self.same(residual(7, ROW, (1, 2)), ((), (6, 3), (0, 0, 1)))
        self.same([next_digits(7, ROW, ()), next_digits(7, ROW, (1,)), next_digits(7, ROW, (2,))], [[1, 2], [2], [6]])

    def test_residuals_and_digits_by_definition(self):
        draw = drawing(561)
        for _ in range(150):
            prime = draw.choice(PRIMES)
            row = drawn_other_row(draw, prime)
            prefix = tuple(draw.randrange(prime) for _ in range(draw.randrange(5)))
            found = residual(prime=prime, row=row, prefix=prefix)
            self.assertTrue(is_row(prime, len(row), found))
            self.same(found, residual_by_definition(prime, row, prefix))
            # also those of prefixes that are not live
            self.same(next_digits(prime=prime, row=row, prefix=prefix), digits_by_definition(prime, row, prefix))

    def test_live_prefixes_by_definition(self):
        draw = drawing(562)
        for _ in range(60):
            prime = draw.choice((2, 3, 5))
            row, bound = drawn_other_row(draw, prime, 2), draw.randrange(1, 4)
            wanted = [()]
            for many in range(1, bound + 1):
                for prefix in itertools.product(range(prime), repeat=many):
                    if prefix[:-1] in wanted and prefix[-1] in digits_by_definition(prime, row, prefix[:-1]):
                        wanted.append(prefix)
            found = live_prefixes(prime=prime, row=row, bound=bound)
            self.same(found, sorted(wanted))
            for many in range(bound + 1):
                self.assertLessEqual(sum(len(prefix) == many for prefix in found), max(len(row) - 1, 1))

    def test_forms_of_rows_against_all_forms(self):
        draw = drawing(563)
        several = 0
        for _ in range(120):
            prime = draw.choice((2, 3, 5))
            row, bound = drawn_other_row(draw, prime, 2), draw.randrange(1, 4)
            wanted = sorted(set(form for form in forms_below(prime, bound) if row_value(prime, row, form) == ()))
            self.same(forms_of_row(prime=prime, row=row, bound=bound), wanted)
            several += len(wanted) > 1
        self.assertGreater(several, 15)

    def test_forms_with_one_residue_and_with_twenty(self):
        long = tuple(range(1, 20)) + (90,)
        forms = [(), (5,), (0, 1), long, long[:19] + (0, 3)]
        row = product_row(97, forms)
        self.same([forms_of_row(97, row, bound=1), forms_of_row(97, row, bound=2), forms_of_row(97, row, bound=19)],
                  [[(), (5,)], [(), (0, 1), (5,)], [(), (0, 1), (5,)]])
        self.same(forms_of_row(97, row, bound=20), [(), (0, 1), long, (5,)])
        self.same(len(live_prefixes(97, row, bound=1)), 4)
        self.assertIn(long, live_prefixes(97, row, bound=20))
        self.same(residual(97, row, long)[0], ())

    def test_repeated_forms(self):
        for prime in (2, 5, 97):
            row = product_row(prime, [(1, 1), (1, 1), (1, 1)])
            self.same([forms_of_row(prime, row, bound=3), live_prefixes(prime, row, bound=2)], [[(1, 1)], [(), (1,), (1, 1)]])
        # all residues are next digits of Y ** p - Y
        row = product_row(5, [(), (1,), (2,), (3,), (4,)])
        self.same([next_digits(5, row, ()), forms_of_row(5, row, bound=2)], [[0, 1, 2, 3, 4], [(), (1,), (2,), (3,), (4,)]])

    def test_rows_with_zero_forms_and_of_one_place(self):
        self.same([next_digits(5, ((), (), (1,)), ()), forms_of_row(5, ((), (), (0, 1)), bound=4)], [[0], [()]])
        self.same([residual(5, ((0, 0, 2),), (3, 1)), next_digits(5, ((0, 2),), ()), live_prefixes(5, ((1,),), bound=20)],
                  [((2,),), [], [()]])
        self.same([forms_of_row(5, ((1,),), bound=20), forms_of_row(5, ((0, 1), ()), bound=3)], [[], []])
        # 3 Y - 3 - x, divided by nothing
        self.same(forms_of_row(5, ((2, 4), (3,)), bound=2), [(1, 2)])

    def test_prefixes_that_are_not_live(self):
        self.same([next_digits(7, ROW, (3,)), residual(7, ROW, (3,)) == residual_by_definition(7, ROW, (3,))], [[], True])
        self.same([(3,) in live_prefixes(7, ROW, bound=2), live_prefixes(7, ROW, bound=2)],
                  [False, [(), (1,), (1, 2), (2,), (2, 6)]])
        row = ((0, 1), (1,), (0, 1))
        for prefix in itertools.product(range(5), repeat=2):
            self.same(next_digits(5, row, prefix), digits_by_definition(5, row, prefix))

    def test_a_root_that_is_no_form(self):
        # Y ** 2 - x has no forms; Y - 1 / (1 - x) has live prefixes of every length
        self.same([live_prefixes(5, ((0, 4), (), (1,)), bound=3), forms_of_row(5, ((0, 4), (), (1,)), bound=3)], [[(), (0,)], []])
        row = ((4,), (1, 4))
        self.same([live_prefixes(5, row, bound=20), forms_of_row(5, row, bound=20)], [[(1,) * many for many in range(21)], []])
        self.same([residual(5, row, (1,) * 7), power_of(5, (1, 4), 2)], [((4,), (1, 4)), (1, 3, 1)])

    def test_the_zero_row(self):
        for row in (((),), ((), ()), ((),) * 6):
            self.raises(InvalidRow, {"at": 0}, residual, 5, row, ())
            self.raises(InvalidRow, {"at": 0}, residual, 5, row, (1, 2))
            self.raises(InvalidRow, {"at": 0}, next_digits, 5, row, (1,))
            self.raises(InvalidRow, {"at": 0}, live_prefixes, 5, row, bound=1)
            self.raises(InvalidRow, {"at": 0}, forms_of_row, 5, row, bound=20)
        for call in (live_prefixes, forms_of_row):
            with self.assertRaises(TypeError):
                call(5, ((1,),), 2)


if __name__ == "__main__":
    unittest.main()
