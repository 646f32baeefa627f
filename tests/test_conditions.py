import itertools
import unittest

from cases import (WRONG, Case, all_combinations, drawing, drawn_condition, drawn_form, drawn_row, drawn_span, full_span,
                   levels_of, power_of, row_in, rows_below, state_of)
from freetops.conditions import cut, is_condition, meets, steps
from freetops.division import divides
from freetops.errors import InvalidCondition
from freetops.forms import value_at
from freetops.rows import level_of, product_of, row_times, zero_row
from freetops.spans import Span, all_rows

SPAN = all_rows(5, (0, 0))
CONDITION = (2, ((1,), (1,)), 1)
# values that are no condition for rows of two places with the prime 5
NONE = [*WRONG, (), 0, (2, ((1,), (1,))), (2, ((1,), (1,)), 1, 1), [2, ((1,), (1,)), 1], (5, ((1,), (1,)), 1),
        (-1, ((1,), (1,)), 1), (True, ((1,), (1,)), 1), (None, ((1,), (1,)), 1), ((2,), ((1,), (1,)), 1),
        (2, ((1,),), 1), (2, ((1,), (1,), (1,)), 1), (2, [(1,), (1,)], 1), (2, ((1,), [1]), 1), (2, ((1,), (5,)), 1),
        (2, ((1,), (1, 0)), 1), (2, ((1,), (True,)), 1), (2, (1, 1), 1), (2, None, 1), (2, (), 1),
        (2, ((1,), (1,)), 0), (2, ((1,), (1,)), 41), (2, ((1,), (1,)), -1), (2, ((1,), (1,)), True),
        (2, ((1,), (1,)), None), (2, ((1,), (1,)), "1"), (2, ((1,), (1,)), 10 ** 5000)]


def meets_by_definition(prime, row, condition):
    point, weights, depth = condition
    return divides(prime, power_of(prime, (-point % prime, 1), depth), product_of(prime, row, weights))


class Conditions(Case):
    def test_example(self):
        self.same([steps(SPAN, CONDITION), cut(SPAN, CONDITION).key(), steps(cut(SPAN, CONDITION), CONDITION)],
                  [[0], [((4,), (1,)), ((3, 1), ())], [None]])

    def test_is_condition(self):
        for value in NONE:
            self.same(is_condition(5, 2, value), False)
        for value in [CONDITION, (0, ((), ()), 1), (4, ((1, 2, 3), ()), 40), (0, ((4,), (0, 1)), 7)]:
            self.same(is_condition(prime=5, places=2, value=value), True)
        self.same([is_condition(2, 1, (1, ((1,),), 1)), is_condition(2, 1, (2, ((1,),), 1)),
                   is_condition(7, 1, (0, (), 1)), is_condition(97, 1, (96, ((96,),), 40))], [True, False, False, True])

    def test_meets_by_the_definition(self):
        draw = drawing(201)
        seen = {True: 0, False: 0}
        for _ in range(300):
            prime = draw.choice([2, 3, 5, 97])
            places = draw.randrange(1, 5)
            condition = drawn_condition(draw, prime, places)
            row = drawn_row(draw, prime, places, 6)
            if draw.random() < 0.3:
                row = row_times(prime, row, power_of(prime, (-condition[0] % prime, 1), draw.randrange(1, 6)))
            found = meets(prime, row, condition)
            self.same(found, meets_by_definition(prime, row, condition))
            seen[found] += 1
        self.assertGreater(min(seen.values()), 50)

    def test_meets_at_the_edges(self):
        self.same([meets(5, ((), ()), (0, ((1,), (1,)), 40)), meets(5, ((1,), (4,)), (0, ((1,), (1,)), 40)),
                   meets(5, ((1,), (2,)), (3, ((), ()), 40)), meets(5, ((1,), (2,)), (3, ((2,), ()), 1))],
                  [True, True, True, False])
        deep = ((0,) * 39 + (1,),)
        self.same([meets(2, deep, (0, ((1,),), 39)), meets(2, deep, (0, ((1,),), 40)),
                   meets(prime=2, row=deep, condition=(0, ((0, 1),), 40))], [True, False, True])

    def test_depth_1_is_a_sum_of_residues_times_values(self):
        draw = drawing(202)
        for _ in range(80):
            prime = draw.choice([2, 3, 7])
            point, weights, _ = drawn_condition(draw, prime, 3)
            row = drawn_row(draw, prime, 3, 4)
            total = sum(value_at(prime, one, point) * value_at(prime, other, point) for one, other in zip(row, weights))
            self.same(meets(prime, row, (point, weights, 1)), total % prime == 0)


class Cuts(Case):
    def test_drawn_cuts_hold_just_the_rows_that_meet(self):
        draw = drawing(203)
        for _ in range(80):
            span = drawn_span(draw)
            condition = drawn_condition(draw, span.prime, span.places)
            found = cut(span, condition)
            self.same([found.prime, found.lifts, found.rank], [span.prime, span.lifts, span.rank])
            for row in found.key():
                self.assertTrue(row in span and meets_by_definition(span.prime, row, condition))
            for _ in range(4):
                row = row_in(draw, span)
                self.same(row in found, meets_by_definition(span.prime, row, condition))
                # a row that is far enough up always meets
                high = row_times(span.prime, row, power_of(span.prime, (-condition[0] % span.prime, 1), condition[2]))
                self.assertIn(high, found)

    def test_against_all_low_rows(self):
        draw = drawing(204)
        for _ in range(40):
            lifts = tuple(draw.randrange(-2, 3) for _ in range(2))
            span = Span(2, lifts, [drawn_row(draw, 2, 2, 2) for _ in range(draw.randrange(1, 3))])
            conditions = [drawn_condition(draw, 2, 2, 3, 2) for _ in range(draw.randrange(1, 3))]
            found = cut(span, *conditions)
            for row in rows_below(2, 2, 4):
                wanted = row in span and all(meets_by_definition(2, row, item) for item in conditions)
                self.same(row in found, wanted)

    def test_the_order_of_several_conditions_does_not_matter(self):
        draw = drawing(205)
        for _ in range(30):
            span = drawn_span(draw)
            conditions = [drawn_condition(draw, span.prime, span.places) for _ in range(3)]
            one_by_one = span
            for condition in conditions:
                one_by_one = cut(one_by_one, condition)
            for order in itertools.permutations(conditions):
                self.same(state_of(cut(span, *order)), state_of(one_by_one))
            self.same(state_of(cut(span, *conditions, *conditions)), state_of(one_by_one))

    def test_no_conditions(self):
        draw = drawing(206)
        for _ in range(10):
            span = drawn_span(draw)
            self.same(state_of(cut(span)), state_of(span))

    def test_conditions_that_all_rows_meet(self):
        draw = drawing(207)
        for _ in range(20):
            span = drawn_span(draw)
            zero = (draw.randrange(span.prime), zero_row(span.places), 40)
            self.same([state_of(cut(span, zero)), steps(span, zero)], [state_of(span), [None] * 40])
        line = Span(5, (0, 0), [((0, 1), (0, 1))])
        self.same([steps(line, (0, ((1,), (4,)), 3)), steps(line, (3, ((1,), (1,)), 2)), steps(line, (0, ((1,), (1,)), 2))],
                  [[None] * 3, [1, 1], [None, 1]])

    def test_spans_of_no_rows(self):
        none = Span(5, (0, 3))
        self.same([cut(none, CONDITION).key(), cut(none, CONDITION).lifts, steps(none, (0, ((1,), ()), 40))],
                  [[], (0, 3), [None] * 40])

    def test_constant_rows_and_depths_1_and_40(self):
        one = all_rows(97, (-7,))
        self.same([steps(one, (5, ((3,),), 40)), cut(one, (5, ((3,),), 40)).heights, cut(one, (5, ((3,),), 1)).key()],
                  [[0] * 40, (33,), [((92, 1),)]])
        self.same(cut(one, (5, ((3,),), 40)).key(), [(power_of(97, (92, 1), 40),)])
        both = steps(all_rows(2, (0, 0)), (1, ((1,), (1,)), 40))
        self.same([both, cut(all_rows(2, (0, 0)), (1, ((1,), (1,)), 40)).heights], [[0] * 40, (0, 40)])


class Steps(Case):
    def check_steps(self, span, condition):
        point, weights, depth = condition
        found = steps(span, condition)
        self.assertEqual((type(found), len(found)), (list, depth))
        before = span
        for at, lead in enumerate(found):
            after = cut(span, (point, weights, at + 1))
            missing = [row for row in before.key() if not meets_by_definition(span.prime, row, (point, weights, at + 1))]
            if lead is None:
                self.assertEqual(missing, [])
                self.same(state_of(after), state_of(before))
            else:
                # the key ascends, so the first one that does not meet is the lowest
                self.same(lead, level_of(missing[0], span.lifts)[1])
                raised = sorted((height + (own == lead), own) for height, own in levels_of(before))
                self.assertEqual(levels_of(after), raised)
            before = after
        return found

    def test_drawn_steps(self):
        draw = drawing(208)
        kinds = set()
        for _ in range(60):
            span = drawn_span(draw) if draw.random() < 0.5 else full_span(draw)
            condition = drawn_condition(draw, span.prime, span.places)
            found = self.check_steps(span, condition)
            kinds.update(type(lead) for lead in found)
            self.same(steps(cut(span, condition), condition), [None] * condition[2])
        self.assertEqual(kinds, {int, type(None)})

    def test_conditions_in_the_span_already(self):
        span = cut(SPAN, (0, ((1,), (1,)), 2))
        self.same(self.check_steps(span, (0, ((1,), (1,)), 4)), [None, None, 0, 0])

    def test_row_of_the_condition_of_any_degree(self):
        draw = drawing(209)
        span = full_span(draw, (97,), 5, 3)
        self.check_steps(span, (96, drawn_row(draw, 97, 3, 40), 12))
        self.check_steps(span, (0, (drawn_form(draw, 97, 100), (), (1,)), 3))

    def test_rows_of_a_cut_span_are_combinations_that_meet(self):
        span = Span(2, (0, 0), [((1,), (1, 1)), ((), (0, 1))])
        condition = (1, ((1,), (0, 1)), 2)
        found = cut(span, condition)
        for row in all_combinations(2, span.key(), 4):
            self.same(row in found, meets_by_definition(2, row, condition))


class WrongConditions(Case):
    def test_wrong_values(self):
        for value in NONE:
            self.raises(InvalidCondition, {"at": 0}, cut, SPAN, value)
            self.raises(InvalidCondition, {"at": 0}, steps, SPAN, value)
            self.raises(InvalidCondition, {"at": 2}, cut, SPAN, CONDITION, CONDITION, value, CONDITION, None)

    def test_names(self):
        self.same(steps(span=SPAN, condition=CONDITION), [0])

    def test_nothing_has_changed(self):
        span = drawn_span(drawing(210), (5,), 2)
        before = state_of(span)
        self.raises(InvalidCondition, {"at": 1}, cut, span, CONDITION, 3)
        cut(span, CONDITION)
        steps(span, CONDITION).append(1)
        self.same(state_of(span), before)
        self.same(steps(SPAN, CONDITION), [0])


if __name__ == "__main__":
    unittest.main()
