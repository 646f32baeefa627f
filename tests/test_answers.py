import itertools
import unittest

from cases import WRONG, Case, bent, drawing, forms_below
from freetops.answers import answers, faults_of, fewest_faults, is_answer
from freetops.counting import free_number
from freetops.errors import InvalidNumber, TooMany
from freetops.forms import value_at
from freetops.points import PointRoom
from test_points import HEARD, drawn_room, state

ROOM = PointRoom(7, 2, 2, HEARD)
LETTERS = PointRoom(7, 1, 2, [(at, (letter,)) for at, letter in enumerate([1, 3, 5, 0, 2, 6, 6])])
NO_FAULTS = [*WRONG, -1, -10 ** 5000, (1,), [1]]


def faults_by_definition(room, answer):
    return sorted(point for point, column in room.heard()
                  if any(value_at(room.prime, form, point) != letter for form, letter in zip(answer, column)))


def all_tuples(room):
    return sorted(itertools.product(forms_below(room.prime, room.bound), repeat=room.width))


def small_rooms(draw, many):
    """Rooms with so few tuples of short forms that all can be tried."""
    shapes = [(2, 1, 4), (2, 2, 3), (2, 3, 2), (3, 1, 4), (3, 2, 2), (3, 3, 1), (5, 1, 3), (5, 2, 1), (5, 2, 2), (7, 1, 2), (7, 2, 1)]
    for at in range(many):
        prime, width, bound = draw.choice(shapes)
        yield drawn_room(draw, (prime,), 7, width, bound, draw.choice((None, 0, 1, 2)))


class Answers(Case):
    def test_examples(self):
        self.same([answers(ROOM, faults=2), answers(ROOM, faults=3), faults_of(ROOM, ((1, 2), (3, 1)))],
                  [[], [((1, 2), (3, 1))], [1, 4, 6]])
        self.same([LETTERS.heights, answers(LETTERS, faults=2), faults_of(LETTERS, ((1, 2),)), fewest_faults(LETTERS)],
                  [(2, 6), [((1, 2),)], [5], 1])

    def test_all_answers_of_small_rooms(self):
        draw = drawing(531)
        seen = {"none": 0, "one": 0, "more": 0, "many": 0}
        for room in small_rooms(draw, 90):
            before = state(room)
            everything = all_tuples(room)
            counts = {value: len(faults_by_definition(room, value)) for value in everything}
            fewest = None
            for faults in range(len(room) + 1):
                wanted = [value for value in everything if counts[value] <= faults]
                free = free_number(room.span(), within=faults + room.bound - 1)
                if room.prime ** free > 4096:
                    self.raises(TooMany, {"free": free}, answers, room, faults=faults)
                    seen["many"] += 1
                    if fewest is None:
                        self.raises(TooMany, {"free": free}, fewest_faults, room)
                        fewest = faults
                    continue
                self.same(answers(room, faults=faults), wanted)
                seen["none" if not wanted else "one" if len(wanted) == 1 else "more"] += 1
                if wanted and fewest is None:
                    fewest = faults
                    self.same(fewest_faults(room), faults)
            self.same(state(room), before)
        self.assertGreater(min(seen.values()), 20)

    def test_is_answer_of_all_tuples(self):
        draw = drawing(532)
        for room in small_rooms(draw, 25):
            for value in draw.sample(all_tuples(room), min(30, len(all_tuples(room)))):
                found = faults_by_definition(room, value)
                self.same(faults_of(room, value), found)
                for faults in (0, 1, 2, 3, len(room), 40, 10 ** 5000):
                    self.same(is_answer(room, value, faults=faults), len(found) <= faults)

    def test_bent_answers(self):
        right = ((1, 2), (3, 1))
        self.same(is_answer(room=ROOM, value=right, faults=3), True)
        many = 0
        for value in bent(right):
            if value == right and repr(value) == repr(right):
                continue
            self.same(is_answer(ROOM, value, faults=3), False)
            many += 1
        self.assertGreater(many, 30)
        for value in [*WRONG, (), 0, (1,), ((1, 2),), ((1, 2), (3, 1), ()), [(1, 2), (3, 1)], ((1, 2), [3, 1]), ((1, 2, 0), (3, 1)),
                      ((True, 2), (3, 1)), ((1, 2), (3, True)), ((1, 2), (10, 1)), ((1, 2), (3, -6))]:
            self.same(is_answer(ROOM, value, faults=7), False)
        # a form with more residues than the bound is none, even without faults
        room = PointRoom(7, 1, 2, [(0, (0,)), (1, (1,))])
        self.same([is_answer(room, ((0, 1),), faults=0), is_answer(room, ((0, 0, 1),), faults=7), is_answer(room, ((),), faults=1)],
                  [True, False, True])

    def test_faults_above_the_number_of_points(self):
        room = PointRoom(2, 1, 2, [(0, (1,)), (1, (0,))])
        everything = [((),), ((0, 1),), ((1,),), ((1, 1),)]
        for faults in (2, 3, 40, 10 ** 30, 10 ** 5000):
            self.same(answers(room, faults=faults), everything)
        self.same([answers(room, faults=0), answers(room, faults=1), fewest_faults(room)],
                  [[((1, 1),)], [((),), ((1,),), ((1, 1),)], 0])
        self.raises(TooMany, {"free": 3}, answers, PointRoom(97, 1, 1, [(0, (1,))]), faults=9)

    def test_no_points(self):
        room = PointRoom(2, 1, 1)
        self.same([answers(room, faults=0), answers(room, faults=5), fewest_faults(room)], [[((),), ((1,),)]] * 2 + [0])
        self.same([faults_of(room, ((1,),)), is_answer(room, ((1,),), faults=0), is_answer(room, ((0, 1),), faults=0)],
                  [[], True, False])
        self.raises(TooMany, {"free": 61}, fewest_faults, PointRoom(2, 3, 20))
        self.raises(TooMany, {"free": 61}, answers, PointRoom(2, 3, 20), faults=0)

    def test_listings_of_4096_and_of_more(self):
        room = PointRoom(2, 1, 11)
        self.same(len(answers(room, faults=0)), 2048)
        self.raises(TooMany, {"free": 13}, answers, PointRoom(2, 1, 12), faults=0)
        self.same(len(answers(PointRoom(2, 1, 12, [(0, (1,))]), faults=0)), 2048)
        self.raises(TooMany, {"free": 14}, answers, PointRoom(2, 1, 12, [(0, (1,))]), faults=1)

    def test_answers_far_beyond_half(self):
        draw = drawing(533)
        found = 0
        for _ in range(10):
            room = drawn_room(draw, (97,), 40, 3, 2, 20)
            if len(room) < 32:
                continue
            # 20 of 32 or more points are wrong, the same ones for all three forms
            fewest = fewest_faults(room)
            self.assertLessEqual(fewest, 20)
            for answer in answers(room, faults=fewest):
                self.same(len(faults_by_definition(room, answer)), fewest)
            found += 1
        self.assertGreater(found, 0)

    def test_half_the_distance(self):
        draw = drawing(534)
        for _ in range(40):
            room = drawn_room(draw, (5, 7, 11, 13), 13, 1)
            faults = (len(room) - room.bound) // 2
            if faults >= 0 and room.prime ** free_number(room.span(), within=faults + room.bound - 1) <= 4096:
                self.assertLessEqual(len(answers(room, faults=faults)), 1)

    def test_wrong_faults(self):
        before = state(ROOM)
        for value in NO_FAULTS:
            self.raises(InvalidNumber, {"value": value}, answers, ROOM, faults=value)
            self.raises(InvalidNumber, {"value": value}, is_answer, ROOM, ((1, 2), (3, 1)), faults=value)
            self.raises(InvalidNumber, {"value": value}, is_answer, ROOM, None, faults=value)
        self.same(state(ROOM), before)
        with self.assertRaises(TypeError):
            answers(ROOM, 2)

    def test_the_room_may_change(self):
        room = PointRoom(7, 1, 2, [(at, (letter,)) for at, letter in enumerate([1, 3, 5, 0, 2, 6, 6])])
        room.lose(5)
        self.same([answers(room, faults=0), fewest_faults(room)], [[((1, 2),)], 0])
        room.put(5, 6)
        self.same([answers(room, faults=0), fewest_faults(room)], [[], 1])


if __name__ == "__main__":
    unittest.main()
