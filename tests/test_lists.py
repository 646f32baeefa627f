import unittest

from cases import WRONG, Case, drawing, drawn_form, forms_below
from freetops.errors import Beyond, InvalidNumber, InvalidPoint, NotPrime, SamePoint
from freetops.forms import value_at
from freetops.lists import forms_meeting, lowest_heights, met_by
from freetops.spans import Span
from freetops.vanishing import vanishing_span
from test_vanishing import NO_PAIRS, PAIRS, drawn_pairs


def all_meeting(prime, pairs, bound, met):
    """The forms that meet so many, tried one by one."""
    return sorted(form for form in set(forms_below(prime, bound))
                  if sum(value_at(prime, form, c) == y for c, y in pairs) >= met)


def heights_of(prime, pairs, bound, times):
    return [vanishing_span(prime, pairs, bound=bound, times=times, most=most).heights[0] for most in range(1, 7)]


class Lists(Case):
    def test_example(self):
        self.same([forms_meeting(7, PAIRS, bound=2, met=3), met_by(7, PAIRS, (2, 6))], [[(1, 2), (2, 6)], [4, 5, 6]])
        self.same([met_by(7, PAIRS, (1, 2)), met_by(7, PAIRS, ()), met_by(7, [], (1,))], [[0, 1, 2, 3, 5], [3], []])

    def test_lists_of_small_fields_against_all_forms(self):
        draw = drawing(571)
        seen = {"beyond": 0, "none": 0, "one": 0, "more": 0}
        for _ in range(120):
            prime, bound = draw.choice([(2, 1), (2, 4), (3, 1), (3, 2), (3, 4), (5, 1), (5, 2), (5, 3), (7, 1), (7, 2), (7, 3)])
            pairs = drawn_pairs(draw, prime, 7)
            if draw.random() < 0.5:
                forms = [drawn_form(draw, prime, bound - 1) for _ in range(2)]
                pairs = [(c, value_at(prime, draw.choice(forms), c)) for c, _ in pairs]
            for met in range(1, len(pairs) + 2):
                heights = {times: heights_of(prime, pairs, bound, times) for times in (1, 2, 3)}
                if all(times * met <= height for times in heights for height in heights[times]):
                    self.raises(Beyond, {"met": met, "height": min(heights[1])}, forms_meeting, prime, pairs, bound=bound, met=met)
                    seen["beyond"] += 1
                    continue
                found = forms_meeting(prime, pairs, bound=bound, met=met)
                self.same(found, all_meeting(prime, pairs, bound, met))
                self.assertLessEqual(len(found), 6)
                seen["none" if not found else "one" if len(found) == 1 else "more"] += 1
        self.assertGreater(min(seen.values()), 25)

    def test_lists_that_need_more_than_one_time(self):
        draw = drawing(572)
        late = 0
        for _ in range(60):
            prime, bound = draw.choice([(7, 2), (7, 3), (5, 2)])
            pairs = drawn_pairs(draw, prime, 7)
            heights = heights_of(prime, pairs, bound, 1)
            for met in range(1, len(pairs) + 1):
                if met <= min(heights):
                    later = [times for times in (2, 3) if times * met > min(heights_of(prime, pairs, bound, times))]
                    if later:
                        self.same(forms_meeting(prime, pairs, bound=bound, met=met), all_meeting(prime, pairs, bound, met))
                        late += 1
        self.assertGreater(late, 2)

    def test_beyond_and_just_not_beyond(self):
        heights = [heights_of(7, PAIRS, 2, times) for times in (1, 2, 3)]
        least = min(met for met in range(1, 8) if any(times * met > min(row) for times, row in zip((1, 2, 3), heights)))
        self.same(forms_meeting(7, PAIRS, bound=2, met=least), all_meeting(7, PAIRS, 2, least))
        self.raises(Beyond, {"met": least - 1, "height": min(heights[0])}, forms_meeting, 7, PAIRS, bound=2, met=least - 1)
        self.raises(Beyond, {"met": 1, "height": 2}, forms_meeting, 7, PAIRS, bound=2, met=1)

    def test_the_sixth_power_is_tried(self):
        draw = drawing(574)
        pairs = [(c, draw.randrange(61)) for c in range(61)]
        heights = heights_of(61, pairs, 2, 1)
        self.assertLess(heights[5], heights[4])
        # only the last power is low enough, and it counts for the height that is told, too
        self.same(forms_meeting(61, pairs, bound=2, met=heights[4]), all_meeting(61, pairs, 2, heights[4]))
        self.raises(Beyond, {"met": 1, "height": heights[5]}, forms_meeting, 61, pairs, bound=2, met=1)

    def test_no_pairs_and_pairs_at_all_residues(self):
        for met in (1, 2, 10 ** 5000):
            self.same([forms_meeting(5, [], bound=20, met=met), forms_meeting(2, (), bound=1, met=met)], [[], []])
        pairs = [(c, c * c * c % 97) for c in range(97)]
        self.same([forms_meeting(97, pairs, bound=4, met=97), forms_meeting(97, pairs, bound=3, met=97),
                   forms_meeting(97, pairs, bound=20, met=60)], [[(0, 0, 0, 1)], [], [(0, 0, 0, 1)]])
        self.same(met_by(97, pairs, (0, 0, 0, 1)), list(range(97)))
        self.same(forms_meeting(97, pairs, bound=4, met=10 ** 5000), [])

    def test_bounds_1_and_20(self):
        pairs = [(0, 3), (4, 3), (2, 1), (1, 1), (3, 3)]
        self.same([forms_meeting(5, pairs, bound=1, met=3), forms_meeting(5, pairs, bound=1, met=2)], [[(3,)], [(1,), (3,)]])
        self.same([met_by(5, pairs, (3,)), met_by(5, pairs, (1,))], [[0, 3, 4], [1, 2]])
        form = tuple(range(1, 21))
        pairs = [(c, value_at(97, form, c)) for c in range(60, 0, -1)]
        pairs = [(c, (y + 1) % 97 if c < 9 else y) for c, y in pairs]
        self.same([forms_meeting(97, pairs, bound=20, met=52), forms_meeting(97, pairs, bound=19, met=52)], [[form], []])
        self.same(met_by(97, pairs, form), list(range(9, 61)))

    def test_lowest_heights(self):
        draw = drawing(573)
        self.same(lowest_heights(7, PAIRS, bound=2, times=1)[1], 2)
        for _ in range(30):
            prime = draw.choice((2, 5, 97))
            pairs, bound, times = drawn_pairs(draw, prime), draw.randrange(1, 21), draw.randrange(1, 4)
            found = lowest_heights(prime=prime, pairs=pairs, bound=bound, times=times)
            self.same(found, heights_of(prime, pairs, bound, times))
            self.same(found, sorted(found, reverse=True))
        self.same(lowest_heights(5, (), bound=20, times=3), [0] * 6)

    def test_arguments_are_not_changed(self):
        pairs = list(PAIRS)
        self.same(forms_meeting(pairs=pairs, prime=7, met=3, bound=2), forms_meeting(7, tuple(pairs), bound=2, met=3))
        self.same(pairs, PAIRS)
        # the order of the pairs does not count
        self.same([forms_meeting(7, pairs[::-1], bound=2, met=3), met_by(7, pairs[::-1], (2, 6))], [[(1, 2), (2, 6)], [4, 5, 6]])


class WrongLists(Case):
    def test_errors_in_their_order(self):
        for value in [*WRONG, 0, -5, 4, 101, 10 ** 5000]:
            self.raises(NotPrime, {"value": value}, forms_meeting, value, None, bound=None, met=None)
            self.raises(NotPrime, {"value": value}, lowest_heights, value, None, bound=None, times=None)
        for value in (None, True, 3, "0", "", Span(5, (0,))):
            self.raises(InvalidPoint, {"at": -1}, forms_meeting, 7, value, bound=None, met=None)
            self.raises(InvalidPoint, {"at": -1}, lowest_heights, 7, value, bound=None, times=None)
        for value in NO_PAIRS:
            self.raises(InvalidPoint, {"at": 2}, forms_meeting, 7, [(0, 1), (0, 1), value, None], bound=None, met=None)
            self.raises(InvalidPoint, {"at": 0}, lowest_heights, 7, (value,), bound=None, times=None)
        pairs = [(4, 1), (2, 1), (3, 0), (2, 1), (4, 1)]
        self.raises(SamePoint, {"point": 2}, forms_meeting, 7, pairs, bound=None, met=None)
        self.raises(SamePoint, {"point": 4}, lowest_heights, 7, pairs[:3] + pairs[4:], bound=0, times=0)
        for value in [*WRONG, (), 0, 21, -1, 10 ** 5000]:
            self.raises(InvalidNumber, {"value": value}, forms_meeting, 7, PAIRS, bound=value, met=None)
            self.raises(InvalidNumber, {"value": value}, lowest_heights, 7, PAIRS, bound=value, times=None)
        for value in [*WRONG, (), 0, -1, -10 ** 5000]:
            self.raises(InvalidNumber, {"value": value}, forms_meeting, 7, PAIRS, bound=2, met=value)
        for value in [*WRONG, (), 0, 4, -1, 10 ** 5000]:
            self.raises(InvalidNumber, {"value": value}, lowest_heights, 7, PAIRS, bound=2, times=value)
        with self.assertRaises(TypeError):
            forms_meeting(7, PAIRS, 2, 3)
        with self.assertRaises(TypeError):
            lowest_heights(7, PAIRS, 2, 1)


if __name__ == "__main__":
    unittest.main()
