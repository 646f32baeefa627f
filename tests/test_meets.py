import functools
import itertools
import unittest

from cases import PRIMES, WRONG, Case, drawing, drawn_lifts, drawn_rows, drawn_span, full_span, row_in, rows_below, state_of
from freetops.conditions import cut
from freetops.errors import InvalidLifts, InvalidRow, NotPrime, Unlike
from freetops.meets import meet_of, relations, sum_of
from freetops.rows import add_rows, combined, zero_row
from freetops.spans import Span, all_rows

SPAN = Span(5, (0, 0), [((0, 1), (3,)), ((2,), (0, 1))])
LINE = Span(5, (0, 0), [((0, 1), (0, 1))])
UNLIKE = [*WRONG[:-2], (), 0, Span(7, (0, 0)), Span(5, (0, 1)), Span(5, (0,)), Span(5, (0, 0, 0)), SPAN.key(), (SPAN,), [SPAN]]


def alike_spans(draw, many, make=drawn_span):
    first = make(draw)
    spans = [first]
    while len(spans) < many:
        rows = drawn_rows(draw, first.prime, first.places, draw.randrange(first.places + 2), 4)
        span = Span(first.prime, first.lifts, rows)
        if make is not full_span or span.size is not None:
            spans.append(span)
    return spans


class Relations(Case):
    def test_drawn_relations(self):
        draw = drawing(241)
        for _ in range(100):
            prime = draw.choice(PRIMES)
            places = draw.randrange(1, 7)
            rows = drawn_rows(draw, prime, places, draw.randrange(1, 9), 4)
            lifts = drawn_lifts(draw, len(rows))
            found = relations(prime, rows, lifts)
            self.same([found.prime, found.lifts, found.places], [prime, lifts, len(rows)])
            self.same(found.rank, len(rows) - Span(prime, (0,) * places, rows).rank)
            for forms in found.key():
                self.same(combined(prime, forms, rows), zero_row(places))

    def test_all_relations_are_there(self):
        draw = drawing(242)
        for _ in range(40):
            rows = drawn_rows(draw, 2, draw.randrange(1, 3), 3, 2)
            found = relations(2, rows, (0, 1, -1))
            for forms in rows_below(2, 3, 2):
                self.same(forms in found, combined(2, forms, rows) == zero_row(len(rows[0])))

    def test_rows_that_have_none(self):
        self.same([relations(5, SPAN.key(), (0, 0)).key(), relations(5, [((3,),)], [7]).rank], [[], 0])
        self.same(relations(5, [((1,), ()), ((), (1,)), ((0, 1), (2,))], (0, 0, 0)).key(), [((0, 1), (2,), (4,))])

    def test_zero_rows_and_equal_rows(self):
        self.same(relations(5, [((), ())], (2,)).key(), [((1,),)])
        self.same(relations(prime=5, rows=(((1,),), ((1,),), ((),)), lifts=[0, 0, 0]).key(),
                  [((4,), (1,), ()), ((), (), (1,))])

    def test_the_lifts_are_those_of_the_rows(self):
        rows = [((1,),), ((0, 1),), ((0, 0, 1),)]
        self.same([relations(5, rows, (0, 0, 0)).heights, relations(5, rows, (0, 1, 2)).heights,
                   relations(5, rows, (2, 1, 0)).heights], [(1, 1), (1, 2), (2, 3)])

    def test_errors_in_their_order(self):
        for value in [*WRONG, 0, -5, 4, 101, 10 ** 5000]:
            self.raises(NotPrime, {"value": value}, relations, value, None, None)
        for value in (None, True, 3, "0", "", SPAN, [], ()):
            self.raises(InvalidRow, {"at": -1}, relations, 5, value, None)
        for value in [*WRONG, (), 0, ((1,), (5,)), ((1,), (1, 0)), [(1,), (1,)], ((1,), [1]), ((1,), (True,)), (1, 1)]:
            self.raises(InvalidRow, {"at": 0}, relations, 5, [value, value, None], None)
            self.raises(InvalidRow, {"at": 1}, relations, 5, (((), ()), value, None), None)
        for value in (((1,),), ((1,), (1,), (1,))):
            self.raises(InvalidRow, {"at": 1}, relations, 5, [((), ()), value, None], None)
        for value in (None, True, 3, "00", "", SPAN, [], (), (0,), (0, 0, 0), [None]):
            self.raises(InvalidLifts, {"at": -1}, relations, 5, [((), ()), ((), ())], value)
        for value in [*WRONG, (), (0,)]:
            self.raises(InvalidLifts, {"at": 1}, relations, 5, [((), ()), ((), ())], (0, value))
            self.raises(InvalidLifts, {"at": 0}, relations, 5, [((), ()), ((), ())], [value, None])

    def test_arguments_are_not_changed(self):
        rows = [((1,),), ((2,),)]
        lifts = [0, 0]
        relations(5, rows, lifts)
        self.same([rows, lifts], [[((1,),), ((2,),)], [0, 0]])


class Sums(Case):
    def test_drawn_sums(self):
        draw = drawing(243)
        for _ in range(40):
            spans = alike_spans(draw, draw.randrange(1, 5))
            found = sum_of(*spans)
            rows = [row for span in spans for row in span.key()]
            self.same(state_of(found), state_of(Span(found.prime, spans[0].lifts, rows)))
            self.same(state_of(functools.reduce(lambda one, other: one + other, spans)), state_of(found))
            self.same([span.is_within(found) for span in spans], [True] * len(spans))

    def test_one_span_alone(self):
        for span in (SPAN, LINE, Span(5, (3,)), all_rows(2, (0, 1))):
            self.same([state_of(sum_of(span)), state_of(meet_of(span))], [state_of(span)] * 2)
            self.same([state_of(sum_of(span, span)), state_of(meet_of(span, span, span))], [state_of(span)] * 2)
        self.same(sum_of(first=SPAN) == meet_of(first=SPAN), True)


class Meets(Case):
    def test_drawn_meets_are_in_all(self):
        draw = drawing(244)
        for _ in range(50):
            spans = alike_spans(draw, draw.randrange(2, 4))
            found = meet_of(*spans)
            self.same([found.prime, found.lifts], [spans[0].prime, spans[0].lifts])
            self.same([row in span for row in found.key() for span in spans], [True] * found.rank * len(spans))
            for span in spans:
                row = row_in(draw, span)
                self.same(row in found, all(row in other for other in spans))

    def test_against_all_low_rows(self):
        draw = drawing(245)
        for _ in range(40):
            spans = [Span(2, (0, 1), drawn_rows(draw, 2, 2, 2, 2)) for _ in range(draw.randrange(2, 4))]
            found = meet_of(*spans)
            for row in rows_below(2, 2, 3):
                self.same(row in found, all(row in span for span in spans))

    def test_ranks_and_sizes_add_up(self):
        draw = drawing(246)
        for at in range(60):
            one, other = alike_spans(draw, 2, full_span if at % 2 else drawn_span)
            both = sum_of(one, other), meet_of(one, other)
            self.same(both[0].rank + both[1].rank, one.rank + other.rank)
            if at % 2:
                self.same(both[0].size + both[1].size, one.size + other.size)

    def test_meets_of_spans_with_common_rows(self):
        draw = drawing(247)
        for _ in range(30):
            prime = draw.choice([2, 3, 97])
            common = drawn_rows(draw, prime, 4, 2, 3)
            spans = [Span(prime, (0, 3, 0, -1), common + drawn_rows(draw, prime, 4, 1, 3)) for _ in range(3)]
            found = meet_of(*spans)
            self.same([row in found for row in common], [True, True])
            for order in itertools.permutations(spans):
                self.same(state_of(meet_of(*order)), state_of(found))

    def test_edges(self):
        self.same(meet_of(SPAN, LINE).key(), [((0, 4, 0, 1), (0, 4, 0, 1))])
        none = Span(5, (0, 0))
        self.same([meet_of(SPAN, none).key(), meet_of(none, SPAN).key(), meet_of(none, none).rank,
                   sum_of(none, none).rank], [[], [], 0, 0])
        self.same([state_of(meet_of(SPAN, all_rows(5, (0, 0)))), state_of(sum_of(none, SPAN, LINE, none))],
                  [state_of(SPAN), state_of(SPAN + LINE)])
        # the meet of spans that are cut is the span that is cut by both
        one, other = (0, ((1,), (2,)), 3), (1, ((0, 1), (1,)), 2)
        whole = all_rows(5, (0, 0))
        self.same(state_of(meet_of(cut(whole, one), cut(whole, other))), state_of(cut(whole, one, other)))

    def test_unlike(self):
        for value in UNLIKE:
            for call in (sum_of, meet_of):
                self.raises(Unlike, {}, call, SPAN, value)
                self.raises(Unlike, {}, call, SPAN, LINE, value, LINE)
        self.same([state_of(SPAN)[2], LINE.rank], [[((0, 1), (3,)), ((2,), (0, 1))], 1])

    def test_lists_of_keys_are_new(self):
        found = meet_of(SPAN)
        found.key().append(1)
        self.same([len(found.key()), len(SPAN.key())], [2, 2])
        self.same(add_rows(5, *SPAN.key()) in found, True)


if __name__ == "__main__":
    unittest.main()
