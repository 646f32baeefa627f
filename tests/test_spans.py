import unittest

from cases import (PRIMES, WRONG, Case, all_combinations, drawing, drawn_form, drawn_lifts, drawn_row, drawn_rows,
                   drawn_span, rows_below)
from freetops.errors import InvalidLifts, InvalidRow, NotIn, NotPrime, Unlike
from freetops.forms import degree_of
from freetops.rows import (add_rows, combined, height_of, lead_of, level_of, row_times, subtract_rows, top_of,
                           unit_row, zero_row)
from freetops.spans import Span, all_rows, have_same_rows
from freetops.tables import determinant
from freetops.tops import are_apart

SPAN = Span(5, (0, 0), [((1, 0, 1), (0, 1)), ((0, 0, 0, 1), (2, 0, 1))])
LINE = Span(5, (0, 0), [((0, 1), (0, 1))])


class Keys(Case):
    def check_key(self, span):
        key = span.key()
        self.assertTrue(are_apart(key, span.lifts))
        levels = [level_of(row, span.lifts) for row in key]
        self.assertEqual(levels, sorted(levels))
        for row in key:
            lead = lead_of(row, span.lifts)
            self.assertEqual(top_of(row, span.lifts)[lead], 1)
            for other in key:
                if other != row:
                    self.assertLess(len(other[lead]), len(row[lead]))
        self.same(span.heights, tuple(height for height, _ in levels))
        self.same(span.leads(), [lead for _, lead in levels])
        self.same((span.rank, len(span)), (len(key), len(key)))

    def test_example(self):
        self.same([SPAN.key(), SPAN.heights, SPAN.size, SPAN.rest_of(((0, 0, 0, 0, 1), ())),
                   SPAN.rest_of(((0, 1), (0, 1)))],
                  [[((0, 1), (3,)), ((2,), (0, 1))], (1, 1), 2, ((1,), ()), ((3,), (2,))])
        lifted = Span(5, (0, 2), SPAN.key())
        self.same([lifted.key(), lifted.heights], [[((4, 0, 1), ()), ((0, 2), (1,))], (2, 2)])
        self.raises(NotPrime, {"value": 6}, Span, 6, (0,))

    def test_drawn_keys(self):
        draw = drawing(71)
        for _ in range(150):
            span = drawn_span(draw)
            self.check_key(span)

    def test_the_key_depends_on_the_rows_of_the_span_alone(self):
        draw = drawing(72)
        for _ in range(80):
            span = drawn_span(draw)
            rows = span.key()
            draw.shuffle(rows)
            for at in range(len(rows)):
                factor = drawn_form(draw, span.prime, 2)
                other = draw.randrange(len(rows))
                if other != at:
                    rows[at] = add_rows(span.prime, rows[at], row_times(span.prime, rows[other], factor))
                rows[at] = row_times(span.prime, rows[at], (draw.randrange(1, span.prime),))
            rows.append(zero_row(span.places))
            self.same(Span(span.prime, list(span.lifts), tuple(rows)).key(), span.key())

    def test_the_span_has_just_the_combinations(self):
        draw = drawing(73)
        for _ in range(30):
            places = draw.randrange(1, 3)
            rows = [drawn_row(draw, 2, places, 2) for _ in range(draw.randrange(1, 3))]
            span = Span(2, drawn_lifts(draw, places), rows)
            combinations = all_combinations(2, rows, 5)
            for row in rows_below(2, places, 3):
                self.same(row in span, row in combinations)

    def test_attributes(self):
        self.same([SPAN.prime, SPAN.lifts, SPAN.places, SPAN.rank, SPAN.size], [5, (0, 0), 2, 2, 2])
        self.same([LINE.rank, LINE.size, LINE.heights, LINE.leads(), LINE.key()],
                  [1, None, (1,), [1], [((0, 1), (0, 1))]])
        none = Span(prime=2, lifts=[-7, 3])
        self.same([none.lifts, none.places, none.rank, none.size, none.heights, none.key(), none.leads()],
                  [(-7, 3), 2, 0, None, (), [], []])
        zero = Span(prime=97, lifts=(0,), rows=[((),), ((),)])
        self.same([zero.rank, zero.size, zero == Span(97, (0,))], [0, None, True])

    def test_size_is_the_degree_of_the_determinant_of_the_key(self):
        draw = drawing(74)
        for _ in range(60):
            span = drawn_span(draw)
            if span.rank == span.places:
                self.same(span.size, degree_of(determinant(span.prime, span.key())))
                self.same(span.size, sum(span.heights) - sum(span.lifts))
            else:
                self.assertIsNone(span.size)

    def test_more_rows_than_places_and_far_lifts(self):
        draw = drawing(75)
        rows = [drawn_row(draw, 97, 3, 6) for _ in range(40)]
        for lifts in ((0, 0, 0), (999999999, -999999999, 0)):
            span = Span(97, lifts, rows)
            self.check_key(span)
            self.same([span.size, span.key() == [unit_row(3, at) for at in sorted(range(3), key=lambda k: lifts[k])]],
                      [0, True])
        far = Span(5, (0, 10 ** 9), [((1, 2), (0, 0, 1)), ((3,), (1, 1))])
        self.check_key(far)
        self.same([far.heights[1] - far.heights[0] > 10 ** 8, far.size], [True, 2])

    def test_errors_in_their_order(self):
        self.raises(NotPrime, {"value": 1}, Span, 1, None, None)
        for value in [*WRONG, 0, -5, 4, 101, 10 ** 5000]:
            self.raises(NotPrime, {"value": value}, Span, value, (0,), [])
            self.raises(NotPrime, {"value": value}, all_rows, value, None)
        for value in (None, True, 3, "0", "", [], (), SPAN):
            self.raises(InvalidLifts, {"at": -1}, Span, 5, value, None)
            self.raises(InvalidLifts, {"at": -1}, all_rows, 5, value)
        for value in [*WRONG, (), (0,)]:
            self.raises(InvalidLifts, {"at": 1}, Span, 5, (0, value, None), None)
            self.raises(InvalidLifts, {"at": 0}, all_rows, prime=5, lifts=[value, 0])
        for value in (None, True, 3, "0", "", SPAN):
            self.raises(InvalidRow, {"at": -1}, Span, 5, (0,), value)
        for value in [*WRONG, (), 0, ((1,),), ((1,), (1,), (1,)), ((1,), (5,)), ((1,), (1, 0)), [(1,), (1,)],
                      ((1,), [1]), ((1,), (True,)), ((1,), (-1,)), ((1,), 1), (1, 1)]:
            self.raises(InvalidRow, {"at": 1}, Span, 5, (0, 0), [((), ()), value, None])
            self.raises(InvalidRow, {"at": 0}, Span, prime=5, lifts=(0, 0), rows=(value,))

    def test_lists_are_copied_and_new(self):
        lifts = [0, 0]
        rows = [((1,), ())]
        span = Span(5, lifts, rows)
        lifts.append(3)
        rows.append(((), (1,)))
        span.key().append(1)
        span.leads().append(1)
        self.same([span.lifts, span.key(), span.leads(), span.rank], [(0, 0), [((1,), ())], [0], 1])
        self.same((lifts, rows), ([0, 0, 3], [((1,), ()), ((), (1,))]))


class Members(Case):
    def test_rests_by_their_definition(self):
        draw = drawing(76)
        for _ in range(120):
            span = drawn_span(draw)
            row = drawn_row(draw, span.prime, span.places, 6)
            rest = span.rest_of(row)
            for head, lead in zip(span.key(), span.leads()):
                self.assertLess(len(rest[lead]), len(head[lead]))
            difference = subtract_rows(span.prime, row, rest)
            way = span.way_of(difference)
            self.assertEqual((type(way), len(way)), (tuple, span.rank))
            if way:
                self.same(combined(span.prime, way, span.key()), difference)
            else:
                self.same(difference, zero_row(span.places))
            self.same([row in span, difference in span], [rest == zero_row(span.places), True])
            if rest != zero_row(span.places):
                self.raises(NotIn, {"rest": rest}, span.way_of, row)

    def test_rests_of_sums_and_of_rows_that_differ_by_the_span(self):
        draw = drawing(77)
        for _ in range(80):
            span = drawn_span(draw)
            one = drawn_row(draw, span.prime, span.places, 5)
            other = drawn_row(draw, span.prime, span.places, 5)
            rests = add_rows(span.prime, span.rest_of(one), span.rest_of(other))
            self.same(span.rest_of(add_rows(span.prime, one, other)), rests)
            for row in span.key():
                moved = add_rows(span.prime, one, row_times(span.prime, row, drawn_form(draw, span.prime, 3)))
                self.same(span.rest_of(moved), span.rest_of(one))

    def test_no_row_that_differs_by_the_span_is_lower_than_the_rest(self):
        draw = drawing(78)
        for _ in range(40):
            lifts = tuple(draw.randrange(-2, 3) for _ in range(2))
            span = Span(2, lifts, [drawn_row(draw, 2, 2, 2) for _ in range(2)])
            row = drawn_row(draw, 2, 2, 3)
            rest = span.rest_of(row)
            if rest == zero_row(2):
                continue
            for part in all_combinations(2, span.key() or [zero_row(2)], 4):
                level = level_of(add_rows(2, row, part), lifts)
                self.assertGreaterEqual(level, level_of(rest, lifts))

    def test_edges(self):
        none = Span(5, (0, 0))
        self.same([none.rest_of(((1,), (2,))), none.way_of(((), ())), ((), ()) in none, ((1,), ()) in none],
                  [((1,), (2,)), (), True, False])
        whole = all_rows(5, (0, 0))
        self.same([whole.rest_of(((1,), (2, 1))), whole.way_of(((1,), (2, 1))), whole.size],
                  [((), ()), ((1,), (2, 1)), 0])
        self.same([SPAN.way_of(((), ())), SPAN.rest_of(row=((), ())), SPAN.way_of(row=((0, 1), (3,)))],
                  [((), ()), ((), ()), ((1,), ())])
        self.raises(NotIn, {"rest": ((1,), ())}, SPAN.way_of, ((0, 0, 0, 0, 1), ()))

    def test_wrong_rows(self):
        for value in [*WRONG, (), 0, ((1,),), ((1,), (1,), (1,)), ((1,), (5,)), ((1,), (1, 0)), [(1,), (1,)],
                      ((1,), [1]), ((1,), (True,)), (1, 1)]:
            self.raises(InvalidRow, {"at": 0}, SPAN.rest_of, value)
            self.raises(InvalidRow, {"at": 0}, SPAN.way_of, value)
            self.same([value in SPAN, value in all_rows(5, (0, 0))], [False, False])


class Together(Case):
    def test_sums(self):
        draw = drawing(79)
        for _ in range(60):
            prime = draw.choice(PRIMES)
            lifts = drawn_lifts(draw, 3)
            one, other = (drawn_rows(draw, prime, 3, draw.randrange(5), 3) for _ in range(2))
            total = Span(prime, lifts, one) + Span(prime, list(lifts), other)
            self.same(total.key(), Span(prime, lifts, one + other).key())
            self.same([Span(prime, lifts, one).is_within(total), Span(prime, lifts, other).is_within(total)], [True, True])
            wanted = Span(prime, lifts, one) == total
            self.same(total.is_within(other=Span(prime, lifts, one)), wanted)
        self.same((SPAN + LINE).key(), Span(5, (0, 0), SPAN.key() + LINE.key()).key())
        self.same((SPAN + SPAN) == SPAN, True)
        self.same((Span(5, (0,)) + Span(5, (0,))).key(), [])

    def test_unlike(self):
        for value in [None, True, 0, "", "x", (), [], ((1,), (1,)), Span(7, (0, 0)), Span(5, (0,)), Span(5, (0, 1)),
                      Span(5, (0, 0, 0))]:
            with self.assertRaises(Unlike) as caught:
                SPAN + value
            self.assertEqual(caught.exception.code, "Unlike")
            self.raises(Unlike, {}, SPAN.is_within, value)

    def test_equality(self):
        self.same([SPAN == Span(5, (0, 0), SPAN.key()), SPAN != Span(5, (0, 0), SPAN.key())], [True, False])
        for value in [None, True, 2, "", SPAN.key(), SPAN.text(), (), Span(5, (0, 1), SPAN.key()), LINE,
                      Span(7, (0, 0), SPAN.key()), Span(5, (0, 0))]:
            self.same([SPAN == value, SPAN != value, value == SPAN], [False, True, False])
        self.same(Span(2, (0,)) == Span(2, (0, 0)), False)

    def test_truth_len_and_repr(self):
        none = Span(5, (0,))
        self.same([bool(none), bool(SPAN), len(none), len(SPAN), len(LINE)], [True, True, 0, 2, 1])
        self.same([repr(SPAN), repr(LINE), repr(Span(97, (0,)))],
                  ["Span(p 5, rank 2)", "Span(p 5, rank 1)", "Span(p 97, rank 0)"])

    def test_spans_never_change(self):
        text = SPAN.text()
        SPAN + LINE
        SPAN.is_within(LINE)
        SPAN.rest_of(((1,), (1,)))
        have_same_rows(SPAN, LINE)
        self.same(SPAN.text(), text)
        with self.assertRaises(AttributeError):
            SPAN.heights = (0,)

    def test_all_rows(self):
        span = all_rows(prime=5, lifts=[3, -1, 3])
        self.same([span.key(), span.heights, span.leads(), span.lifts],
                  [[unit_row(3, 1), unit_row(3, 0), unit_row(3, 2)], (-1, 3, 3), [1, 0, 2], (3, -1, 3)])
        self.same([all_rows(2, (0,)).size, ((1, 1),) in all_rows(2, (0,))], [0, True])

    def test_have_same_rows(self):
        draw = drawing(80)
        for _ in range(40):
            span = drawn_span(draw)
            other = Span(span.prime, drawn_lifts(draw, span.places), span.key())
            self.same(have_same_rows(span, other), True)
            if span.rank:
                self.same(have_same_rows(span, Span(span.prime, span.lifts, span.key()[1:])), False)
                self.same(have_same_rows(one=Span(span.prime, span.lifts, span.key()[:-1]), other=span), False)
        self.same([have_same_rows(SPAN, Span(7, (0, 0), SPAN.key())), have_same_rows(Span(5, (0,)), Span(5, (0, 0))),
                   have_same_rows(Span(5, (0,)), Span(5, (4,)))], [False, False, True])


class Consequences(Case):
    def test_height_of_combinations(self):
        draw = drawing(81)
        for _ in range(60):
            span = drawn_span(draw)
            forms = [drawn_form(draw, span.prime, 3) for _ in range(span.rank)]
            if any(forms):
                reached = max(len(form) - 1 + height for form, height in zip(forms, span.heights) if form)
                self.same(height_of(combined(span.prime, forms, span.key()), span.lifts), reached)


if __name__ == "__main__":
    unittest.main()
