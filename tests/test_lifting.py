import inspect
import unittest

from cases import WRONG, Case, drawing, drawn_lifts, drawn_span, full_span, state_of
from freetops.errors import InvalidLifts, InvalidNumber
from freetops.lifting import lift_place, lifted, walk
from freetops.spans import Span, all_rows, have_same_rows

SPAN = Span(5, (0, 0), [((0, 1), (3,)), ((2,), (0, 1))])


class Lifted(Case):
    def test_example(self):
        found = lifted(SPAN, (0, 2))
        self.same([found.key(), found.heights, found.lifts], [[((4, 0, 1), ()), ((0, 2), (1,))], (2, 2), (0, 2)])
        self.same(state_of(lifted(span=found, lifts=[0, 0])), state_of(SPAN))

    def test_drawn_spans_keep_their_rows(self):
        draw = drawing(221)
        for _ in range(60):
            span = drawn_span(draw)
            lifts = drawn_lifts(draw, span.places)
            found = lifted(span, list(lifts))
            self.same([found.lifts, found.prime, have_same_rows(found, span)], [lifts, span.prime, True])
            self.same(state_of(found), state_of(Span(span.prime, lifts, span.key())))
            self.same(state_of(lifted(found, span.lifts)), state_of(span))

    def test_all_lifts_grown_alike(self):
        draw = drawing(222)
        for _ in range(30):
            span = drawn_span(draw)
            by = draw.randrange(-20, 21)
            found = lifted(span, [lift + by for lift in span.lifts])
            self.same([found.key(), found.heights], [span.key(), tuple(height + by for height in span.heights)])

    def test_spans_of_no_rows(self):
        self.same(state_of(lifted(Span(5, (0, 0)), (3, -20))), (5, (3, -20), []))

    def test_wrong_lifts(self):
        for value in (None, True, 3, "0", "00", "", [], (), SPAN, (0,), (0, 0, 0), [None, None, None]):
            self.raises(InvalidLifts, {"at": -1}, lifted, SPAN, value)
            self.raises(InvalidLifts, {"at": -1}, next, walk(SPAN, value))
        for value in [*WRONG, (), (0,)]:
            self.raises(InvalidLifts, {"at": 1}, lifted, SPAN, (0, value))
            self.raises(InvalidLifts, {"at": 0}, lifted, SPAN, [value, None])
            self.raises(InvalidLifts, {"at": 1}, next, walk(SPAN, [0, value]))
        self.same(state_of(SPAN), (5, (0, 0), [((0, 1), (3,)), ((2,), (0, 1))]))


class OneLift(Case):
    def test_by_any_number(self):
        draw = drawing(223)
        for _ in range(60):
            span = drawn_span(draw)
            place = draw.randrange(span.places)
            by = draw.randrange(-20, 21)
            lifts = list(span.lifts)
            lifts[place] += by
            self.same(state_of(lift_place(span, place, by)), state_of(lifted(span, lifts)))

    def test_by_1_raises_one_height_at_most(self):
        draw = drawing(224)
        for at in range(60):
            span = full_span(draw) if at % 2 else drawn_span(draw)
            found = lift_place(span, draw.randrange(span.places))
            grown = sum(one - other for one, other in zip(found.heights, span.heights))
            self.assertTrue(all(one - other in (0, 1) for one, other in zip(found.heights, span.heights)))
            self.assertIn(grown, (1,) if span.size is not None else (0, 1))

    def test_edges(self):
        self.same([lift_place(SPAN, 1).lifts, lift_place(span=SPAN, place=0, by=-20).lifts, lift_place(SPAN, 1, 20).lifts],
                  [(0, 1), (-20, 0), (0, 20)])
        self.same([state_of(lift_place(SPAN, 0, 0)), state_of(lift_place(lift_place(SPAN, 0, 7), 0, -7))],
                  [state_of(SPAN)] * 2)
        # a span in which a place does not count
        flat = Span(5, (0, 0), [((1,), ())])
        self.same([lift_place(flat, 1).heights, lift_place(flat, 0, -3).heights], [(0,), (-3,)])
        # lifts are not bounded, only the change is
        self.same(lift_place(Span(5, (10 ** 9,), [((1,),)]), 0).heights, (10 ** 9 + 1,))

    def test_wrong_values(self):
        for value in [*WRONG, (), -1, 2, 10 ** 5000]:
            self.raises(InvalidNumber, {"value": value}, lift_place, SPAN, value)
            self.raises(InvalidNumber, {"value": value}, lift_place, SPAN, value, None)
        for value in [*WRONG, (), -21, 21, 10 ** 5000]:
            self.raises(InvalidNumber, {"value": value}, lift_place, SPAN, 1, value)


class Walks(Case):
    def test_is_a_generator(self):
        self.assertTrue(inspect.isgeneratorfunction(walk))

    def test_single_changes_in_their_order(self):
        draw = drawing(225)
        for _ in range(25):
            span = drawn_span(draw)
            targets = tuple(draw.randrange(-4, 5) for _ in range(span.places))
            start = lifted(span, tuple(draw.randrange(-4, 5) for _ in range(span.places)))
            lifts = list(start.lifts)
            wanted = [start.heights]
            for place, target in enumerate(targets):
                by = 1 if target > lifts[place] else -1
                for _ in range(abs(target - lifts[place])):
                    lifts[place] += by
                    wanted.append(lifted(span, lifts).heights)
            self.same(list(walk(start, targets)), wanted)
            self.same(wanted[-1], lifted(span, targets).heights)

    def test_each_change_by_1_changes_one_height_of_a_full_span(self):
        found = list(walk(span=SPAN, lifts=[-2, 3]))
        self.same(found[:3], [(1, 1), (0, 1), (0, 0)])
        self.same([len(found), [sum(heights) for heights in found]], [6, [2, 1, 0, 1, 2, 3]])

    def test_without_a_change(self):
        self.same(list(walk(SPAN, (0, 0))), [(1, 1)])
        self.same(list(walk(Span(5, (3, 4)), [3, 4])), [()])
        self.same(list(walk(Span(5, (3,)), (1,))), [(), (), ()])

    def test_greatest_walk(self):
        self.same(len(list(walk(all_rows(2, (-20,) * 6), (20,) * 6))), 241)

    def test_arguments_are_not_changed(self):
        lifts = [2, 1]
        self.same([len(list(walk(SPAN, lifts))), lifts, state_of(SPAN)[1]], [4, [2, 1], (0, 0)])


if __name__ == "__main__":
    unittest.main()
