import unittest

from cases import PRIMES, WRONG, Case, drawing, drawn_form, row_in, rows_below, state_of
from freetops.conditions import cut
from freetops.errors import Full, InvalidColumn, InvalidNumber, InvalidPoint, NotPrime, SamePoint, UnknownPoint
from freetops.forms import value_at
from freetops.points import PointRoom
from freetops.spans import Span, all_rows

HEARD = [(0, (1, 3)), (1, (4, 2)), (2, (5, 5)), (3, (0, 6)), (4, (4, 1)), (5, (4, 1)), (6, (2, 3))]
# values that are no column of two residues of the prime 7
NO_COLUMNS = [*WRONG, (), 0, (1,), (1, 2, 3), [1, 2], (1, 7), (-1, 0), (True, 1), (1, False), (None, 1), ("1", 2), ((1,), 2),
              (1, 10 ** 5000)]
NO_RESIDUES = [*WRONG, -1, 7, 10 ** 5000, (1,), [1]]


def state(room):
    return repr(room), room.prime, room.width, room.bound, room.heard(), room.heights, state_of(room.span())


def drawn_room(draw, primes=tuple(PRIMES), most=12, width=None, bound=None, faults=None):
    """A room in which forms are heard, with some faults; all letters are drawn if faults is None."""
    prime = draw.choice(primes)
    width = width or draw.randrange(1, 4)
    bound = bound or draw.randrange(1, 6)
    points = draw.sample(range(prime), draw.randrange(min(prime, most) + 1))
    forms = [drawn_form(draw, prime, bound - 1) for _ in range(width)]
    wrong = points if faults is None else points[:faults]
    heard = []
    for point in draw.sample(points, len(points)):
        values = tuple(value_at(prime, form, point) for form in forms)
        heard.append((point, tuple(draw.randrange(prime) for _ in range(width)) if point in wrong else values))
    return PointRoom(prime, width, bound, heard)


def in_by_definition(room, row):
    p = room.prime
    return all(value_at(p, form, point) == letter * value_at(p, row[0], point) % p
               for point, column in room.heard() for form, letter in zip(row[1:], column))


class Rooms(Case):
    def test_examples(self):
        self.same(PointRoom(7, 2, 2, HEARD).heights, (4, 5, 6))
        letters = [1, 3, 5, 0, 2, 6, 6]
        self.same(PointRoom(7, 1, 2, [(at, (letter,)) for at, letter in enumerate(letters)]).heights, (2, 6))

    def test_attributes_and_lists(self):
        heard = [(3, (1, 2)), (0, (4, 4))]
        room = PointRoom(prime=7, width=2, bound=20, heard=heard)
        heard.append((1, (0, 0)))
        room.heard().append((1, (0, 0)))
        self.same([room.prime, room.width, room.bound, room.heard(), len(room)], [7, 2, 20, [(3, (1, 2)), (0, (4, 4))], 2])
        self.same(PointRoom(7, 2, 20, ((3, (1, 2)), (0, (4, 4)))).heard(), [(3, (1, 2)), (0, (4, 4))])
        self.same([repr(room), bool(room), bool(PointRoom(2, 1, 1)), len(PointRoom(2, 1, 1))],
                  ["PointRoom(p 7, width 2, bound 20, 2 points)", True, True, 0])
        self.same(repr(PointRoom(7, 1, 2, [(at, (0,)) for at in range(7)])), "PointRoom(p 7, width 1, bound 2, 7 points)")
        self.same(repr(PointRoom(97, 1, 1, [(96, (96,))])), "PointRoom(p 97, width 1, bound 1, 1 points)")
        with self.assertRaises(AttributeError):
            room.heights = ()

    def test_no_points(self):
        for width in (1, 2, 3):
            for bound in (1, 20):
                room = PointRoom(5, width, bound)
                self.same([room.heights, room.heard()], [tuple(sorted((bound - 1,) + (0,) * width)), []])
                self.same(state_of(room.span()), state_of(all_rows(5, (bound - 1,) + (0,) * width)))

    def test_spans_of_rooms_multiply_out(self):
        draw = drawing(521)
        for _ in range(80):
            room = drawn_room(draw, faults=draw.choice((None, 0, 2)))
            span = room.span()
            self.same([span.prime, span.lifts, span.rank, span.heights],
                      [room.prime, (room.bound - 1,) + (0,) * room.width, room.width + 1, room.heights])
            self.same(sum(room.heights), room.bound - 1 + room.width * len(room))
            self.assertTrue(in_by_definition(room, row_in(draw, span)))

    def test_all_such_rows_are_there(self):
        draw = drawing(522)
        for _ in range(15):
            room = drawn_room(draw, (2, 3), width=1)
            span = room.span()
            for row in rows_below(room.prime, 2, 4 if room.prime == 2 else 3):
                self.same(row in span, in_by_definition(room, row))

    def test_each_letter_is_a_condition(self):
        draw = drawing(523)
        for _ in range(40):
            room = drawn_room(draw)
            conditions = []
            for point, column in room.heard():
                for at, letter in enumerate(column):
                    weights = [()] * (room.width + 1)
                    weights[0] = (-letter % room.prime,) if letter else ()
                    weights[at + 1] = (1,)
                    conditions.append((point, tuple(weights), 1))
            found = cut(all_rows(room.prime, room.span().lifts), *conditions)
            self.same(state_of(found), state_of(room.span()))

    def test_membership(self):
        room = PointRoom(7, 1, 1, [(0, (1,)), (5, (2,)), (1, (0,))])
        self.same([point in room for point in range(-1, 9)], [False, True, True, False, False, False, True, False, False, False])
        for value in [*WRONG, (0,), [5], 10 ** 5000, (5, (2,)), "5"]:
            self.same(value in room, False)
            self.same(value not in room, True)


class Changes(Case):
    def test_put_and_lose(self):
        room = PointRoom(7, 2, 2)
        for at, (point, column) in enumerate(HEARD):
            self.same([point in room, room.put(point, *column), point in room, len(room)], [False, None, True, at + 1])
        self.same(state(room), state(PointRoom(7, 2, 2, HEARD)))
        self.same([room.lose(3), room.heard()], [None, HEARD[:3] + HEARD[4:]])
        # a point that is heard again stands behind the others
        room.put(3, 6, 0)
        self.same([room.heard(), 3 in room], [HEARD[:3] + HEARD[4:] + [(3, (6, 0))], True])
        for point in (6, 0, 3, 1, 2, 4, 5):
            room.lose(point=point)
        self.same(state(room), state(PointRoom(7, 2, 2)))
        wide = PointRoom(5, 3, 1)
        wide.put(4, 0, 1, 2)
        self.same(wide.heard(), [(4, (0, 1, 2))])

    def test_40_points_and_one_more(self):
        draw = drawing(524)
        for width in (1, 3):
            heard = [(point, tuple(draw.randrange(97) for _ in range(width))) for point in draw.sample(range(97), 41)]
            room = PointRoom(97, width, 20, heard[:40])
            before = state(room)
            self.same([len(room), sum(room.heights)], [40, 19 + 40 * width])
            self.raises(Full, {"most": 40}, room.put, heard[40][0], *heard[40][1])
            self.raises(InvalidColumn, {"at": 0}, room.put, heard[40][0], *heard[40][1], 1)
            self.raises(SamePoint, {"point": heard[7][0]}, room.put, heard[7][0], None)
            self.raises(InvalidNumber, {"value": 97}, room.put, 97, None)
            self.raises(Full, {"most": 40}, PointRoom, 97, width, 20, heard)
            self.raises(InvalidPoint, {"at": 40}, PointRoom, 97, width, 20, heard[:40] + [None])
            self.raises(InvalidPoint, {"at": 42}, PointRoom, 97, width, 20, heard + heard[:1] + [None])
            self.raises(SamePoint, {"point": heard[2][0]}, PointRoom, 97, width, 20, heard + heard[2:3])
            self.same(state(room), before)
            room.lose(heard[0][0])
            room.put(heard[40][0], *heard[40][1])
            self.same([len(room), room.heard()], [40, heard[1:]])

    def test_wrong_puts(self):
        room = PointRoom(7, 2, 2, HEARD[:3])
        before = state(room)
        for value in NO_RESIDUES:
            self.raises(InvalidNumber, {"value": value}, room.put, value, 1, 2)
            self.raises(InvalidNumber, {"value": value}, room.put, value)
            self.raises(UnknownPoint, {"point": value}, room.lose, value)
        for point in (0, 1, 2):
            self.raises(SamePoint, {"point": point}, room.put, point, 1, 2)
            self.raises(SamePoint, {"point": point}, room.put, point, None, 2)
        for point in (3, 4, 5, 6):
            self.raises(UnknownPoint, {"point": point}, room.lose, point)
        for value in NO_COLUMNS:
            self.raises(InvalidColumn, {"at": 0}, room.put, 3, value)
            if isinstance(value, (tuple, list)) and value != [1, 2]:
                self.raises(InvalidColumn, {"at": 0}, room.put, 3, *value)
        for value in [*WRONG, (), -1, 7]:
            self.raises(InvalidColumn, {"at": 0}, room.put, 3, 1, value)
            self.raises(InvalidColumn, {"at": 0}, room.put, 3, value, 1)
        self.raises(InvalidColumn, {"at": 0}, room.put, 3)
        self.same(state(room), before)

    def test_truths_are_no_residues(self):
        room = PointRoom(2, 1, 1)
        self.raises(InvalidNumber, {"value": True}, room.put, True, 1)
        self.raises(InvalidColumn, {"at": 0}, room.put, 0, True)
        room.put(0, 1)
        self.raises(InvalidNumber, {"value": False}, room.put, False, 1)
        self.raises(UnknownPoint, {"point": False}, room.lose, False)
        self.same([0 in room, False in room, room.heard()], [True, False, [(0, (1,))]])

    def test_twins_are_independent(self):
        room = PointRoom(7, 2, 2, HEARD)
        twin = room.twin()
        self.same([state(twin), twin == room], [state(room), True])
        twin.lose(0)
        room.lose(6)
        self.same([room.heard(), twin.heard(), twin == room], [HEARD[:-1], HEARD[1:], False])

    def test_equality(self):
        room = PointRoom(7, 2, 2, HEARD)
        self.same([room == PointRoom(7, 2, 2, tuple(HEARD[::-1])), room != PointRoom(7, 2, 2, HEARD[3:] + HEARD[:3])], [True, False])
        for value in [*WRONG, (), HEARD, PointRoom(11, 2, 2, HEARD), PointRoom(7, 2, 3, HEARD), PointRoom(7, 2, 2, HEARD[1:]),
                      PointRoom(7, 2, 2, [(0, (1, 4)), *HEARD[1:]]), PointRoom(7, 1, 2), repr(room)]:
            self.same([room == value, room != value, value == room], [False, True, False])
        self.same([PointRoom(7, 1, 2) == PointRoom(7, 2, 2), PointRoom(7, 1, 2) == PointRoom(7, 1, 2)], [False, True])


class WrongRooms(Case):
    def test_errors_in_their_order(self):
        for value in [*WRONG, 0, -5, 4, 101, 10 ** 5000]:
            self.raises(NotPrime, {"value": value}, PointRoom, value, None, None, None)
        for value in [*WRONG, (), 0, 4, -1, 10 ** 5000]:
            self.raises(InvalidNumber, {"value": value}, PointRoom, 7, value, None, None)
        for value in [*WRONG, (), 0, 21, -1, 10 ** 5000]:
            self.raises(InvalidNumber, {"value": value}, PointRoom, 7, 2, value, None)
        for value in (None, True, 3, "0", "", Span(5, (0,))):
            self.raises(InvalidPoint, {"at": -1}, PointRoom, 7, 2, 1, value)

    def test_wrong_points(self):
        for value in NO_COLUMNS:
            self.raises(InvalidPoint, {"at": 1}, PointRoom, 7, 2, 1, [(0, (1, 2)), (0, value), None])
        for value in NO_RESIDUES:
            self.raises(InvalidPoint, {"at": 0}, PointRoom, 7, 2, 1, ((value, (1, 2)), (1, (1, 2))))
        for value in [*WRONG, 0, (), (0,), (0, (1, 2), 0), [0, (1, 2)], ((0, (1, 2)),), (0, 1, 2)]:
            self.raises(InvalidPoint, {"at": 2}, PointRoom, 7, 2, 1, [(0, (1, 2)), (0, (1, 2)), value])

    def test_same_points(self):
        pairs = [(4, (1, 1)), (2, (1, 2)), (3, (0, 0)), (2, (1, 2)), (4, (1, 1))]
        self.raises(SamePoint, {"point": 2}, PointRoom, 7, 2, 1, pairs)
        self.raises(SamePoint, {"point": 4}, PointRoom, 7, 2, 1, pairs[:3] + pairs[4:])
        self.same(PointRoom(7, 2, 1, pairs[:3]).heard(), pairs[:3])


if __name__ == "__main__":
    unittest.main()
