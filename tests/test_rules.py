import itertools
import unittest

from cases import WRONG, Case, drawing
from freetops.counting import free_number
from freetops.errors import InvalidNumber, TooMany, Undetermined
from freetops.letters import LetterRoom
from freetops.rules import far_column, free_rules, is_rule, least_rule, rules, sure_column, told_columns
from test_letters import LETTERS, drawn_room, state

ROOM = LetterRoom(5, 1, LETTERS)
NO_ORDERS = [*WRONG, -1, 9, 10 ** 5000, (2,), [2]]


def rules_by_definition(room, order):
    """The rules of an order, tried one by one."""
    columns = room.columns()
    found = []
    for tail in itertools.product(range(room.prime), repeat=order):
        rule = (1, *tail)
        if all(sum(rule[k] * columns[n - k][c] for k in range(order + 1)) % room.prime == 0
               for c in range(room.width) for n in range(order, len(columns))):
            found.append(rule)
    return found


def told_by_definition(room, rule, columns):
    return tuple(-sum(rule[k] * columns[-k][c] for k in range(1, len(rule))) % room.prime for c in range(room.width))


def joined(draw, room, many):
    """The room beside others with as many columns, some of them its own letter rows."""
    for _ in range(many):
        columns = [tuple(draw.randrange(room.prime) for _ in range(2)) for _ in range(len(room))]
        room = room + (room if draw.random() < 0.4 else LetterRoom(room.prime, 2, columns))
    return room


def small_rooms(draw, many):
    for at in range(many):
        prime = draw.choice((2, 3, 5))
        room = drawn_room(draw, (prime,), 7 if prime == 2 else 5 if prime == 3 else 4)
        yield joined(draw, room, 2) if at % 4 == 0 else room


class Rules(Case):
    def test_example(self):
        self.same([rules(ROOM, order=2), least_rule(ROOM), free_rules(ROOM, order=2)], [[(1, 4, 4)], (1, 4, 4), 0])
        self.same([sure_column(ROOM), far_column(ROOM, 10 ** 30), is_rule(ROOM, (1, 4, 4))], [(4,), (1,), True])
        self.same([free_rules(ROOM, order=0), free_rules(ROOM, order=1), rules(ROOM, order=1), told_columns(ROOM, order=1)],
                  [None, None, [], []])

    def test_all_rules_of_small_rooms(self):
        draw = drawing(511)
        several = 0
        for room in small_rooms(draw, 80):
            before = state(room)
            least = None
            for order in range(len(room) + 1):
                wanted = rules_by_definition(room, order)
                self.same(rules(room, order=order), wanted)
                told = sorted({told_by_definition(room, rule, room.columns()) for rule in wanted})
                self.same(told_columns(room, order=order), told)
                free = free_rules(room, order=order)
                if not wanted:
                    self.same(free, None)
                    continue
                self.same([room.prime ** free, free], [len(wanted), free_number(room.span(), within=order) - 1])
                self.assertIn(len(told), [room.prime ** f for f in range(room.width + 1)])
                if least is None:
                    least = order
                    self.same([room.least_order, least_rule(room)], [order, wanted[0]])
                    self.same(sure_column(room), told[0] if len(told) == 1 else None)
                    several += len(wanted) > 1
            self.same(state(room), before)
        self.assertGreater(several, 15)

    def test_is_rule_of_any_order(self):
        draw = drawing(512)
        seen = {True: 0, False: 0}
        for room in small_rooms(draw, 25):
            for order in range(len(room) + 1):
                wanted = rules_by_definition(room, order)
                for tail in itertools.product(range(room.prime), repeat=min(order, 3)):
                    rule = (1,) + (0,) * (order - len(tail)) + tail
                    self.same(is_rule(room, rule), rule in wanted)
                    seen[rule in wanted] += 1
        self.assertGreater(min(seen.values()), 100)

    def test_wrong_rules(self):
        zeros = LetterRoom(5, 2, [(0, 0), (0, 0)])
        self.same([is_rule(zeros, (1,)), is_rule(zeros, (1, 1)), is_rule(room=zeros, value=(1, 0, 4))], [True] * 3)
        for value in [*WRONG, 1, 0, (), (0,), (2,), (True,), (1, True), (1, False), [1], [1, 0], (1, 5), (1, -1), (1, None), (1, (0,)),
                      (1, 0, 0, 0), (1,) * 40, (0, 1), (2, 2), (1, 10 ** 5000), "1", (1, "0")]:
            self.same(is_rule(zeros, value), False)
        self.same([is_rule(LetterRoom(5, 1), (1,)), is_rule(LetterRoom(5, 1), (1, 0)), is_rule(ROOM, (1, 4, 4, 0))],
                  [True, False, True])

    def test_rooms_without_columns(self):
        for prime in (2, 97):
            for width in (1, 2, 3):
                room = LetterRoom(prime, width)
                self.same([rules(room, order=0), free_rules(room, order=0), told_columns(room, order=0), least_rule(room)],
                          [[(1,)], 0, [(0,) * width], (1,)])
                self.same([sure_column(room), far_column(room, 0), far_column(room, 10 ** 30)], [(0,) * width] * 3)
                self.raises(InvalidNumber, {"value": 1}, rules, room, order=1)

    def test_orders_0_and_that_of_the_number_of_columns(self):
        self.same([rules(LetterRoom(3, 1, [(0,), (0,)]), order=0), rules(LetterRoom(3, 1, [(0,), (1,)]), order=0)], [[(1,)], []])
        room = LetterRoom(2, 1, [(0,), (1,)])
        self.same([room.least_order, rules(room, order=2), free_rules(room, order=2), told_columns(room, order=2)],
                  [2, [(1, 0, 0), (1, 0, 1), (1, 1, 0), (1, 1, 1)], 2, [(0,), (1,)]])
        self.same([least_rule(room), sure_column(room)], [(1, 0, 0), None])

    def test_rules_that_end_with_0(self):
        room = LetterRoom(5, 1, [(2,), (1,), (2,), (4,), (3,)])
        # the first letter does not follow, so the rule of order 2 looks back one column only
        self.same([room.least_order, rules(room, order=2), sure_column(room), far_column(room, 0)], [2, [(1, 3, 0)], (1,), (2,)])
        self.same([far_column(room, at) for at in range(5, 13)], [(1,), (2,), (4,), (3,)] * 2)

    def test_several_rules_of_the_least_order(self):
        room = LetterRoom(5, 1, [(0,), (0,), (1,), (0,), (0,)])
        found = rules(room, order=3)
        self.same([room.least_order, len(found), found[0], least_rule(room), sure_column(room)],
                  [3, 5, (1, 0, 0, 0), (1, 0, 0, 0), None])
        self.same(told_columns(room, order=3), [(0,), (1,), (2,), (3,), (4,)])
        # more rules than columns that they tell: far back there are only zeros
        self.same([free_rules(room, order=5), len(told_columns(room, order=5))], [5, 5])

    def test_listings_of_4096_and_of_more(self):
        room = LetterRoom(2, 1, [(0,)] * 12 + [(1,)])
        self.same([room.least_order, free_rules(room, order=13), free_rules(room, order=12)], [13, 13, None])
        self.raises(TooMany, {"free": 13}, rules, room, order=13)
        self.same(told_columns(room, order=13), [(0,), (1,)])
        self.same(least_rule(room), (1,) + (0,) * 13)
        shorter = LetterRoom(2, 1, [(0,)] * 11 + [(1,)])
        found = rules(shorter, order=12)
        self.same([free_rules(shorter, order=12), len(found), found == sorted(set(found)), found[0], found[-1]],
                  [12, 4096, True, (1,) + (0,) * 12, (1,) * 13])
        # 97 ** 2 columns would be told, but 97 in a room of one letter row
        self.raises(TooMany, {"free": 2}, told_columns, LetterRoom(97, 2, [(1, 0), (0, 1)]), order=2)
        self.same(told_columns(LetterRoom(97, 1, [(0,), (1,)]), order=2), [(letter,) for letter in range(97)])
        self.raises(TooMany, {"free": 2}, rules, LetterRoom(97, 1, [(0,), (1,)]), order=2)

    def test_joined_rooms(self):
        room = ROOM + ROOM + ROOM + ROOM
        self.same([room.width, rules(room, order=2), sure_column(room), far_column(room, 10 ** 30), far_column(room, 3)],
                  [4, [(1, 4, 4)], (4,) * 4, (1,) * 4, (3,) * 4])
        self.same(told_columns(room, order=2), [(4,) * 4])
        units = LetterRoom(2, 3, [(1, 0, 0), (0, 1, 0), (0, 0, 1), (0, 0, 0), (0, 0, 0), (0, 0, 0)])
        self.same(len(told_columns(units, order=6)), 8)
        late = LetterRoom(2, 3, [(0, 0, 0), (0, 0, 0), (0, 0, 0), (1, 0, 0), (0, 1, 0), (0, 0, 1)])
        wide = units + late
        self.same([wide.width, len(told_columns(wide, order=6))], [6, 64])

    def test_wrong_orders(self):
        before = state(ROOM)
        for call in (free_rules, rules, told_columns):
            for value in NO_ORDERS:
                self.raises(InvalidNumber, {"value": value}, call, ROOM, order=value)
            for room in (LetterRoom(2, 1), LetterRoom(2, 1, [(1,)])):
                self.raises(InvalidNumber, {"value": True}, call, room, order=True)
                self.raises(InvalidNumber, {"value": False}, call, room, order=False)
            with self.assertRaises(TypeError):
                call(ROOM, 2)
        self.same(state(ROOM), before)


class FarColumns(Case):
    def continued(self, room, many):
        columns = room.columns()
        rule = least_rule(room)
        while len(columns) < many:
            columns.append(told_by_definition(room, rule, columns))
        return columns

    def test_columns_of_continued_rooms(self):
        draw = drawing(513)
        known = 0
        for at in range(80):
            room = drawn_room(draw)
            if at % 4 == 0:
                room = joined(draw, room, 2)
            if free_rules(room, order=room.least_order) > 0:
                continue
            known += 1
            columns = self.continued(room, 40)
            self.same([far_column(room, number) for number in range(40)], columns)
            self.same(far_column(room=room, number=len(room)), sure_column(room))
            # a room with more of these columns has the same rule, so the same far columns
            longer = LetterRoom(room.prime, 1, [column[:1] for column in columns]) if room.width == 1 else None
            if longer is not None:
                self.same(far_column(longer, 10 ** 30 - 7), far_column(room, 10 ** 30 - 7))
        self.assertGreater(known, 25)

    def test_indexes_of_30_digits(self):
        # the letters of the example repeat after 20 columns
        for number in (10 ** 30, 10 ** 30 - 1, 123456789012345678901234567890, 20 ** 20, 8):
            self.same(far_column(ROOM, number), self.continued(ROOM, 40)[number % 20])
        powers = LetterRoom(97, 2, [(1, 1), (5, 10), (25, 3), (28, 30)])
        self.same(least_rule(powers)[0], 1)
        for number in (10 ** 30, 10 ** 29 + 17):
            self.same(far_column(powers, number), (pow(5, number, 97), pow(10, number, 97)))

    def test_zeros_behind_letters(self):
        room = LetterRoom(5, 1, [(2,), (0,), (0,), (0,)])
        self.same([least_rule(room), far_column(room, 0), far_column(room, 3), far_column(room, 10 ** 30)],
                  [(1, 0), (2,), (0,), (0,)])

    def test_several_rules(self):
        room = LetterRoom(3, 1, [(0,), (1,)])
        for number in (0, 1, 2, 10 ** 30):
            self.raises(Undetermined, {"free": 2}, far_column, room, number)
        for value in [*WRONG, -1, 10 ** 30 + 1, 10 ** 5000]:
            self.raises(InvalidNumber, {"value": value}, far_column, room, value)
            self.raises(InvalidNumber, {"value": value}, far_column, ROOM, value)
        draw = drawing(514)
        for room in small_rooms(draw, 30):
            free = free_rules(room, order=room.least_order)
            if free > 0:
                self.raises(Undetermined, {"free": free}, far_column, room, 0)

    def test_the_room_may_change(self):
        room = LetterRoom(5, 1, LETTERS)
        self.same(far_column(room, 8), (4,))
        room.put(4)
        self.same([far_column(room, 8), rules(room, order=2)], [(4,), [(1, 4, 4)]])
        room.take_back()
        room.put(0)
        self.same([rules(room, order=2), is_rule(room, (1, 4, 4))], [[], False])


if __name__ == "__main__":
    unittest.main()
