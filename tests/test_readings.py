import unittest

from cases import PRIMES, WRONG, Case, drawing, drawn_form, drawn_row, full_span, row_in, thin_span
from freetops.division import divided
from freetops.errors import InvalidForm, InvalidRow, NotPrime, Unlike, ZeroForm
from freetops.forms import raised
from freetops.numbers import inverse
from freetops.opposites import least_form, opposite
from freetops.readings import Reading, reads_zero
from freetops.rows import add_rows, product_of, row_times
from freetops.spans import Span, all_rows

SPAN = Span(5, (0, 0), [((0, 1), (3,)), ((2,), (0, 1))])
NO_ROWS = [*WRONG, 0, (), ((1,), (5,)), ((1,), (1, 0)), [(1,), (1,)], ((1,), [1]), ((1,), (True,)), ((1,), (-1,)), (1, 1)]


class Readings(Case):
    def test_attributes(self):
        reading = Reading(prime=5, by=(4, 0, 2), row=((0, 1), (3,)))
        self.same([reading.prime, reading.by, reading.row], [5, (4, 0, 2), ((0, 1), (3,))])

    def test_small_readings(self):
        reading = Reading(5, (4, 0, 2), ((1,), ()))
        # the coefficient of x ** 1 in the remainder, divided by 2
        rows = [((0, 1), ()), ((3, 4), (1,)), ((2,), ()), ((0, 0, 1), (1,))]
        self.same([reading.reading(row) for row in rows], [3, 2, 0, 0])
        self.same([reading.reading(other=((0, 0, 0, 1), ())), reading.reading(((), ()))], [4, 0])
        self.same(Reading(5, (0, 1), ((1,),)).reading(((4, 1),)), 4)

    def test_a_call_reads_the_same(self):
        reading = Reading(5, (4, 0, 2), ((1,), ()))
        self.same([reading(((0, 1), ())), reading(other=((0, 0, 0, 1), ()))], [3, 4])
        self.raises(InvalidRow, {"at": 0}, reading, ((1,),))

    def test_drawn_readings_by_their_definition(self):
        draw = drawing(291)
        for _ in range(150):
            prime = draw.choice(PRIMES)
            places = draw.randrange(1, 7)
            form = drawn_form(draw, prime, 5) or (1,)
            one, other = drawn_row(draw, prime, places, 5), drawn_row(draw, prime, places, 5)
            _, rest = divided(prime, product_of(prime, one, other), form)
            degree = len(form) - 1
            wanted = rest[degree - 1] if degree > 0 and len(rest) >= degree else 0
            found = Reading(prime, form, one).reading(other)
            self.same(found, wanted * inverse(prime, form[-1]) % prime)
            self.same(Reading(prime, form, other).reading(one), found)
            # the number at 1 / x of the fraction is that of the quotient by the form of x times the product
            quotient, _ = divided(prime, raised(product_of(prime, one, other), 1), form)
            self.same(found, quotient[0] if quotient else 0)

    def test_additive(self):
        draw = drawing(292)
        for _ in range(60):
            prime = draw.choice(PRIMES)
            reading = Reading(prime, drawn_form(draw, prime, 4) or (0, 1), drawn_row(draw, prime, 3, 4))
            one, other = drawn_row(draw, prime, 3, 6), drawn_row(draw, prime, 3, 6)
            self.same(reading.reading(add_rows(prime, one, other)), (reading.reading(one) + reading.reading(other)) % prime)
            self.same(reading.reading(row_times(prime, one, (prime - 1,))), -reading.reading(one) % prime)

    def test_constant_forms_read_0(self):
        for by in ((1,), (3,)):
            reading = Reading(5, by, ((1, 2, 3), (4,)))
            self.same([reading.reading(((0, 0, 1), (1,))), reading.reading(((1,), ()))], [0, 0])
            self.same(reads_zero(reading, all_rows(5, (0, 0))), True)

    def test_zero_rows_read_0(self):
        self.same(Reading(5, (0, 0, 1), ((), ())).reading(((1, 1, 1), (2,))), 0)

    def test_errors_in_their_order(self):
        for value in [*WRONG, 0, -5, 4, 101, 10 ** 5000]:
            self.raises(NotPrime, {"value": value}, Reading, value, None, None)
        for value in [*WRONG, 0, (5,), (1, 0), [1], ((1,),), (True,), (0, -1)]:
            self.raises(InvalidForm, {"at": 0}, Reading, 5, value, None)
        self.raises(ZeroForm, {}, Reading, 5, (), None)
        for value in NO_ROWS:
            self.raises(InvalidRow, {"at": 0}, Reading, 5, (0, 1), value)

    def test_wrong_rows(self):
        reading = Reading(5, (0, 0, 1), ((1,), (2,)))
        for value in [*NO_ROWS, ((1,),), ((1,), (1,), (1,))]:
            self.raises(InvalidRow, {"at": 0}, reading.reading, value)
            self.raises(InvalidRow, {"at": 0}, reading, value)
        self.same([reading.by, reading.row, reading.reading(((0, 1), ()))], [(0, 0, 1), ((1,), (2,)), 1])


class ReadsZero(Case):
    def test_rows_of_the_opposite_read_0_at_all_rows(self):
        draw = drawing(293)
        for _ in range(40):
            span = full_span(draw)
            form = least_form(span)
            found = opposite(span)
            reading = Reading(span.prime, form, row_in(draw, found))
            self.same([reads_zero(reading, span), reading.reading(row_in(draw, span))], [True, 0])
            other = Reading(span.prime, form, drawn_row(draw, span.prime, span.places, 3))
            self.same(reads_zero(other, span), other.row in found)

    def test_by_reading_at_many_rows(self):
        draw = drawing(294)
        seen = {True: 0, False: 0}
        for _ in range(150):
            span = thin_span(draw, (2, 3))
            form = drawn_form(draw, span.prime, 3) or (0, 1)
            reading = Reading(span.prime, form, drawn_row(draw, span.prime, span.places, 2))
            read = [reading.reading(row_times(span.prime, row, raised((1,), power)))
                    for row in span.key() for power in range(6)]
            self.same(reads_zero(reading=reading, span=span), not any(read))
            seen[not any(read)] += 1
        self.assertGreater(min(seen.values()), 20)

    def test_a_key_that_is_read_0_is_not_enough(self):
        # it reads 0 at the key row, but not at x times the key row
        span = Span(5, (0,), [((1,),)])
        reading = Reading(5, (0, 0, 1), ((1,),))
        self.same([reading.reading(((1,),)), reading.reading(((0, 1),)), reads_zero(reading, span)], [0, 1, False])
        self.same(reads_zero(reading, Span(5, (0,))), True)

    def test_unlike(self):
        reading = Reading(5, (0, 1), ((1,), (2,)))
        for span in (Span(7, (0, 0)), Span(5, (0,)), Span(5, (0, 0, 0)), all_rows(2, (0, 0))):
            self.raises(Unlike, {}, reads_zero, reading, span)
        # lifts do not matter
        self.same(reads_zero(reading, Span(5, (7, -3), [((0, 1), ())])), True)


if __name__ == "__main__":
    unittest.main()
