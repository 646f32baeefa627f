import unittest

from cases import WRONG, Case, drawing
from freetops.answers import answers, faults_of
from freetops.counting import free_number
from freetops.errors import InvalidNumber, NoAnswer, SamePoint, TooMany
from freetops.forms import value_at
from freetops.points import PointRoom
from freetops.shares import secrets, sure_liars, sure_points
from test_answers import NO_FAULTS, all_tuples, faults_by_definition
from test_points import drawn_room, state

# shares of the secret 1 of 1 + 2 x; the point 5 lies
SHARES = [(5, (6,)), (1, (3,)), (2, (5,)), (3, (0,)), (4, (2,)), (6, (6,))]
CALLS = (secrets, sure_liars, sure_points)


class Shares(Case):
    def test_small_shares(self):
        room = PointRoom(7, 1, 2, SHARES)
        self.same([secrets(room, faults=1), sure_liars(room, faults=1), sure_points(room, faults=1)], [[(1,)], [5], [1, 2, 3, 4, 6]])
        self.same([secrets(room=room, faults=0), secrets(room, faults=2)], [[], [(1,)]])

    def test_by_trying_all_tuples(self):
        draw = drawing(541)
        seen = {"none": 0, "one": 0, "more": 0}
        for at in range(120):
            prime, width, bound = draw.choice([(3, 1, 3), (3, 2, 2), (5, 1, 2), (5, 2, 1), (5, 1, 3), (7, 1, 2), (7, 2, 1)])
            room = drawn_room(draw, (prime,), 7, width, bound, draw.choice((None, 0, 1)))
            if 0 in room:
                room.lose(0)
            before = state(room)
            for faults in range(len(room) + 1):
                if prime ** free_number(room.span(), within=faults + bound - 1) > 4096:
                    continue
                found = [value for value in all_tuples(room) if len(faults_by_definition(room, value)) <= faults]
                values = {tuple(value_at(prime, form, 0) for form in value) for value in found}
                self.same(secrets(room, faults=faults), sorted(values))
                if not found:
                    self.raises(NoAnswer, {}, sure_liars, room, faults=faults)
                    self.raises(NoAnswer, {}, sure_points, room, faults=faults)
                    seen["none"] += 1
                    continue
                seen["one" if len(found) == 1 else "more"] += 1
                wrong = [set(faults_by_definition(room, value)) for value in found]
                points = {point for point, _ in room.heard()}
                self.same(sure_liars(room, faults=faults), sorted(points.intersection(*wrong)))
                self.same(sure_points(room, faults=faults), sorted(points.difference(*wrong)))
            self.same(state(room), before)
        self.assertGreater(min(seen.values()), 25)

    def test_several_answers(self):
        # within 1 fault the values 1 and 2 at the points 1 and 2 leave two answers of one residue
        room = PointRoom(5, 1, 1, [(2, (2,)), (1, (1,))])
        self.same([answers(room, faults=1), secrets(room, faults=1), sure_liars(room, faults=1), sure_points(room, faults=1)],
                  [[((1,),), ((2,),)], [(1,), (2,)], [], []])

    def test_no_points(self):
        room = PointRoom(2, 2, 1)
        self.same([secrets(room, faults=0), sure_liars(room, faults=0), sure_points(room, faults=3)],
                  [[(0, 0), (0, 1), (1, 0), (1, 1)], [], []])

    def test_faults_above_the_number_of_points(self):
        room = PointRoom(3, 1, 1, [(1, (1,)), (2, (1,))])
        for faults in (2, 3, 10 ** 5000):
            self.same([secrets(room, faults=faults), sure_liars(room, faults=faults), sure_points(room, faults=faults)],
                      [[(0,), (1,), (2,)], [], []])
        self.same([sure_points(room, faults=0), sure_points(room, faults=1)], [[1, 2], [1, 2]])

    def test_the_residue_0_heard_comes_first(self):
        for room in (PointRoom(7, 1, 2, [(1, (1,)), (0, (2,))]), PointRoom(2, 3, 20, [(0, (0, 0, 0))])):
            before = state(room)
            for call in CALLS:
                for faults in (0, 9, *NO_FAULTS):
                    self.raises(SamePoint, {"point": 0}, call, room, faults=faults)
            self.same(state(room), before)

    def test_errors_behind_it(self):
        room = PointRoom(97, 1, 20, [(1, (1,))])
        none = PointRoom(5, 1, 1, [(2, (2,)), (1, (1,))])
        for call in CALLS:
            for value in NO_FAULTS:
                self.raises(InvalidNumber, {"value": value}, call, room, faults=value)
                self.raises(InvalidNumber, {"value": value}, call, none, faults=value)
            self.raises(TooMany, {"free": 20}, call, room, faults=0)
            with self.assertRaises(TypeError):
                call(room, 0)
        self.same(secrets(none, faults=0), [])
        self.raises(NoAnswer, {}, sure_liars, none, faults=0)
        self.raises(NoAnswer, {}, sure_points, none, faults=0)

    def test_many_shares(self):
        draw = drawing(542)
        for _ in range(5):
            room = drawn_room(draw, (97,), 40, 2, 3, 4)
            if 0 in room or len(room) < 15:
                continue
            only = answers(room, faults=4)
            self.assertEqual(len(only), 1)
            self.same([secrets(room, faults=4), sure_liars(room, faults=4)],
                      [[tuple(form[0] if form else 0 for form in only[0])], faults_of(room, only[0])])


if __name__ == "__main__":
    unittest.main()
