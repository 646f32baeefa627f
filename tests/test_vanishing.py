import unittest
from math import comb

from cases import PRIMES, WRONG, Case, drawing, drawn_form, drawn_row, power_of, row_in, rows_below, state_of
from freetops.division import divides
from freetops.errors import InvalidNumber, InvalidPoint, NotPrime, SamePoint
from freetops.forms import add, is_form, multiply, scaled, value_at
from freetops.rows import row_times
from freetops.spans import Span, all_rows
from freetops.vanishing import row_value, vanishes, vanishing_span

PAIRS = [(0, 1), (1, 3), (2, 5), (3, 0), (4, 5), (5, 4), (6, 3)]
# values that are no pair of residues of the prime 7
NO_PAIRS = [*WRONG, 0, (), (0,), (0, 1, 2), [0, 1], (0, 7), (7, 0), (-1, 0), (0, -1), (True, 0), (0, False), (None, 0), (0, (1,)),
            ((0, 1),), (0, 10 ** 5000)]


def vanishes_by_definition(prime, row, pair, times):
    point, value = pair
    for b in range(times):
        total = ()
        for j in range(b, len(row)):
            total = add(prime, total, scaled(prime, row[j], comb(j, b) * value ** (j - b)))
        if not divides(prime, power_of(prime, (-point % prime, 1), times - b), total):
            return False
    return True


def drawn_pairs(draw, prime, most=8):
    points = draw.sample(range(prime), draw.randrange(min(prime, most) + 1))
    return [(point, draw.randrange(prime)) for point in points]


class Spans(Case):
    def test_example(self):
        span = vanishing_span(7, PAIRS, bound=2, times=1, most=2)
        self.same([span.heights, span.key()[0], span.lifts], [(2, 3, 5), ((2, 3, 5), (4, 6), (1,)), (0, 1, 2)])
        # it is (Y - 1 - 2 x)(Y - 2 - 6 x)
        one, other = (6, 5), (5, 1)
        self.same(span.key()[0], (multiply(7, one, other), add(7, one, other), (1,)))

    def test_spans_multiply_out(self):
        draw = drawing(551)
        for _ in range(50):
            prime = draw.choice(PRIMES)
            pairs = drawn_pairs(draw, prime)
            bound, times, most = draw.randrange(1, 6), draw.randrange(1, 4), draw.randrange(1, 7)
            span = vanishing_span(prime, pairs, bound=bound, times=times, most=most)
            self.same([span.prime, span.lifts, span.rank],
                      [prime, tuple(j * (bound - 1) for j in range(most + 1)), most + 1])
            for row in [*span.key(), row_in(draw, span)]:
                for pair in pairs:
                    self.assertTrue(vanishes_by_definition(prime, row, pair, times))
                    self.same(vanishes(prime, row, pair, times), True)

    def test_all_such_rows_are_there(self):
        draw = drawing(552)
        seen = {True: 0, False: 0}
        for _ in range(40):
            prime, most, many = draw.choice([(2, 1, 4), (2, 2, 3), (2, 3, 2), (3, 1, 3), (3, 2, 2)])
            pairs, times = drawn_pairs(draw, prime, 2), draw.randrange(1, 4)
            span = vanishing_span(prime, pairs, bound=2, times=times, most=most)
            for row in draw.sample(rows_below(prime, most + 1, many), 60):
                wanted = all(vanishes_by_definition(prime, row, pair, times) for pair in pairs)
                self.same(row in span, wanted)
                seen[wanted] += 1
        self.assertGreater(min(seen.values()), 50)

    def test_no_pairs_and_pairs_at_all_residues(self):
        for most in range(1, 7):
            for pairs in ([], ()):
                span = vanishing_span(5, pairs, bound=20, times=3, most=most)
                self.same(state_of(span), state_of(all_rows(5, tuple(19 * j for j in range(most + 1)))))
        span = vanishing_span(97, [(c, c * c % 97) for c in range(97)], bound=3, times=1, most=1)
        self.same([span.heights, span.key()[0]], [(2, 97), ((0, 0, 96), (1,))])
        self.same(vanishing_span(2, [(1, 1), (0, 1)], bound=1, times=2, most=1).size, 6)

    def test_a_low_row_has_met_forms_as_roots(self):
        draw = drawing(553)
        seen = 0
        for _ in range(40):
            prime = draw.choice((7, 11, 97))
            bound, times = draw.randrange(1, 4), draw.randrange(1, 4)
            form = drawn_form(draw, prime, bound - 1)
            pairs = [(c, value_at(prime, form, c) if draw.random() < 0.8 else draw.randrange(prime)) for c in range(7)]
            met = sum(value_at(prime, form, c) == y for c, y in pairs)
            for most in range(1, 5):
                span = vanishing_span(prime, pairs, bound=bound, times=times, most=most)
                if times * met > span.heights[0]:
                    self.same(row_value(prime, span.key()[0], form), ())
                    seen += 1
        self.assertGreater(seen, 30)

    def test_lists_and_tuples(self):
        pairs = list(PAIRS)
        span = vanishing_span(prime=7, pairs=pairs, bound=2, times=2, most=3)
        self.same(state_of(vanishing_span(7, tuple(PAIRS), most=3, times=2, bound=2)), state_of(span))
        self.same(pairs, PAIRS)


class WrongSpans(Case):
    def test_errors_in_their_order(self):
        for value in [*WRONG, 0, -5, 4, 101, 10 ** 5000]:
            self.raises(NotPrime, {"value": value}, vanishing_span, value, None, bound=None, times=None, most=None)
        for value in (None, True, 3, "0", "", Span(5, (0,))):
            self.raises(InvalidPoint, {"at": -1}, vanishing_span, 7, value, bound=None, times=None, most=None)
        for value in NO_PAIRS:
            self.raises(InvalidPoint, {"at": 2}, vanishing_span, 7, [(0, 1), (0, 1), value, None], bound=None, times=None, most=None)
            self.raises(InvalidPoint, {"at": 0}, vanishing_span, 7, (value,), bound=2, times=1, most=1)
        pairs = [(4, 1), (2, 1), (3, 0), (2, 1), (4, 1)]
        self.raises(SamePoint, {"point": 2}, vanishing_span, 7, pairs, bound=None, times=None, most=None)
        self.raises(SamePoint, {"point": 4}, vanishing_span, 7, pairs[:3] + pairs[4:], bound=0, times=0, most=0)
        for value in [*WRONG, (), 0, 21, -1, 10 ** 5000]:
            self.raises(InvalidNumber, {"value": value}, vanishing_span, 7, PAIRS, bound=value, times=None, most=None)
        for value in [*WRONG, (), 0, 4, -1, 10 ** 5000]:
            self.raises(InvalidNumber, {"value": value}, vanishing_span, 7, PAIRS, bound=2, times=value, most=None)
        for value in [*WRONG, (), 0, 7, -1, 10 ** 5000]:
            self.raises(InvalidNumber, {"value": value}, vanishing_span, 7, PAIRS, bound=2, times=1, most=value)
        with self.assertRaises(TypeError):
            vanishing_span(7, PAIRS, 2, 1, 1)


class Values(Case):
    def test_values(self):
        self.same([row_value(5, ((1, 2),), (3, 4)), row_value(5, ((), (1,)), (3, 4)), row_value(5, ((1,), (0, 1), (1,)), (2,))],
                  [(1, 2), (3, 4), (0, 2)])
        self.same([row_value(5, ((), ()), (1,)), row_value(5, ((3,), (1,), (4,)), ())], [(), (3,)])
        draw = drawing(554)
        for _ in range(60):
            prime = draw.choice(PRIMES)
            row, form = drawn_row(draw, prime, draw.randrange(1, 7), 5), drawn_form(draw, prime, 4)
            total = ()
            for power, own in enumerate(row):
                total = add(prime, total, multiply(prime, own, power_of(prime, form, power)))
            found = row_value(prime=prime, row=row, form=form)
            self.assertTrue(is_form(prime, found))
            self.same(found, total)

    def test_vanishing_by_definition(self):
        draw = drawing(555)
        seen = {True: 0, False: 0}
        for _ in range(300):
            prime = draw.choice((2, 3, 5))
            row = drawn_row(draw, prime, draw.randrange(1, 7), 3)
            pair, times = (draw.randrange(prime), draw.randrange(prime)), draw.randrange(1, 4)
            if draw.random() < 0.5:
                row = row_times(prime, row, power_of(prime, (-pair[0] % prime, 1), draw.randrange(4)))
            wanted = vanishes_by_definition(prime, row, pair, times)
            self.same(vanishes(prime=prime, row=row, pair=pair, times=times), wanted)
            seen[wanted] += 1
        self.assertGreater(min(seen.values()), 60)

    def test_small_vanishings(self):
        # Y - x at (2, 2), and its square
        self.same([vanishes(5, ((0, 4), (1,)), (2, 2), 1), vanishes(5, ((0, 4), (1,)), (2, 2), 2), vanishes(5, ((0, 4), (1,)), (2, 3), 1)],
                  [True, False, False])
        square = ((0, 0, 1), (0, 3), (1,))
        self.same([vanishes(5, square, (2, 2), times) for times in (1, 2, 3)], [True, True, False])
        self.same([vanishes(5, ((),), (0, 3), 3), vanishes(5, ((0, 0, 0, 1),), (0, 3), 3), vanishes(5, ((0, 0, 1),), (0, 3), 3)],
                  [True, True, False])


if __name__ == "__main__":
    unittest.main()
