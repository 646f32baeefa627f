import inspect
import itertools
import unittest

from cases import PRIMES, WRONG, Case, drawing, drawn_form, row_in, rows_below, state_of
from freetops.conditions import cut, steps
from freetops.counting import free_number
from freetops.division import divides
from freetops.errors import Full, InvalidColumn, InvalidNumber, NothingLeft, NotPrime, Unlike
from freetops.forms import form_of, multiply, raised, scaled, subtract
from freetops.letters import LetterRoom
from freetops.numbers import inverse
from freetops.rows import height_of, unit_row
from freetops.spans import Span, all_rows

LETTERS = [(1,), (1,), (2,), (3,), (0,), (3,), (3,), (1,)]
# values that are no column of two residues of the prime 5
NO_COLUMNS = [*WRONG, (), 0, (1,), (1, 2, 3), [1, 2], (1, 5), (-1, 0), (True, 1), (1, False), (None, 1), ("1", 2), ((1,), 2),
              (1, 10 ** 5000)]


def state(room):
    return repr(room), room.columns(), room.heights, room.least_order, state_of(room.span())


def drawn_room(draw, primes=tuple(PRIMES), most=12, width=None):
    prime = draw.choice(primes)
    width = width or draw.randrange(1, 4)
    columns = [tuple(draw.randrange(prime) for _ in range(width)) for _ in range(draw.randrange(most + 1))]
    if draw.random() < 0.3:
        # letters that follow a short rule
        rule = [draw.randrange(prime) for _ in range(draw.randrange(1, 4))]
        columns = columns[:3]
        while columns and len(columns) < most:
            last = columns[::-1][:len(rule)]
            columns.append(tuple(sum(q * column[at] for q, column in zip(rule, last)) % prime for at in range(width)))
    return LetterRoom(prime, width, columns)


def is_rule_by_definition(room, rule):
    columns, e = room.columns(), len(rule) - 1
    return all(sum(rule[k] * columns[n - k][c] for k in range(e + 1)) % room.prime == 0
               for c in range(room.width) for n in range(e, len(columns)))


def in_by_definition(room, row):
    letters = [form_of(room.prime, [column[at] for column in room.columns()]) for at in range(room.width)]
    power = raised((1,), len(room))
    return all(divides(room.prime, power, subtract(room.prime, multiply(room.prime, row[0], form), own))
               for form, own in zip(letters, row[1:]))


class Rooms(Case):
    def test_example(self):
        room = LetterRoom(5, 1, LETTERS)
        self.same([room.least_order, room.heights], [2, (2, 7)])
        self.same([heights for _, heights in room.walk()],
                  [(0, 1), (1, 1), (1, 2), (2, 2), (2, 3), (2, 4), (2, 5), (2, 6), (2, 7)])
        rules = [(1, *rule) for rule in itertools.product(range(5), repeat=2) if is_rule_by_definition(room, (1, *rule))]
        self.same(rules, [(1, 4, 4)])
        # the rule is the first form of the lowest key row, up to a residue
        first = room.span().key()[0][0]
        self.same(scaled(5, first, inverse(5, first[0])), (1, 4, 4))

    def test_attributes_and_lists(self):
        columns = [(1, 2), (3, 4)]
        room = LetterRoom(prime=5, width=2, columns=columns)
        columns.append((0, 0))
        room.columns().append((0, 0))
        self.same([room.prime, room.width, room.columns(), len(room)], [5, 2, [(1, 2), (3, 4)], 2])
        self.same(LetterRoom(5, 2, ((1, 2), (3, 4))).columns(), [(1, 2), (3, 4)])
        self.same([repr(room), bool(room), bool(LetterRoom(2, 1)), len(LetterRoom(2, 1))],
                  ["LetterRoom(p 5, width 2, 2 columns)", True, True, 0])
        self.same(repr(LetterRoom(97, 1, [(96,)])), "LetterRoom(p 97, width 1, 1 columns)")
        for name in ("heights", "least_order"):
            with self.assertRaises(AttributeError):
                setattr(room, name, 0)

    def test_no_columns(self):
        for width in (1, 2, 3):
            room = LetterRoom(5, width)
            self.same([room.heights, room.least_order, room.columns(), list(room.walk())],
                      [(0,) + (1,) * width, 0, [], [(0, (0,) + (1,) * width)]])
            self.same(state_of(room.span()), state_of(all_rows(5, (0,) + (1,) * width)))

    def test_columns_of_zeros(self):
        room = LetterRoom(7, 3, [(0, 0, 0)] * 60)
        self.same([room.least_order, room.heights], [0, (0, 61, 61, 61)])
        late = LetterRoom(7, 1, [(0,)] * 59 + [(3,)])
        self.same([late.least_order, late.heights, sum(late.heights)], [60, (1, 60), 61])

    def test_drawn_spans_multiply_out(self):
        draw = drawing(341)
        for _ in range(60):
            room = drawn_room(draw)
            span = room.span()
            self.same([span.prime, span.lifts, span.rank, span.heights],
                      [room.prime, (0,) + (1,) * room.width, room.width + 1, room.heights])
            self.same(sum(room.heights), room.width * (len(room) + 1))
            self.assertTrue(in_by_definition(room, row_in(draw, span)))
            row = [drawn_form(draw, room.prime, 4)]
            for at in range(room.width):
                form = form_of(room.prime, [column[at] for column in room.columns()])
                multiple = raised(drawn_form(draw, room.prime, 2), len(room))
                row.append(subtract(room.prime, multiply(room.prime, row[0], form), multiple))
            self.assertIn(tuple(row), span)

    def test_all_such_rows_are_there(self):
        draw = drawing(342)
        for _ in range(12):
            room = drawn_room(draw, (2,), 4, draw.randrange(1, 3))
            span = room.span()
            for row in rows_below(2, room.width + 1, 3):
                self.same(row in span, in_by_definition(room, row))

    def test_each_letter_is_a_condition_at_0(self):
        draw = drawing(343)
        for _ in range(25):
            room = drawn_room(draw, most=8)
            before = room.span()
            room.put(*[draw.randrange(room.prime) for _ in range(room.width)])
            for at in range(room.width):
                form = form_of(room.prime, [column[at] for column in room.columns()])
                weights = list(unit_row(room.width + 1, at + 1))
                weights[0] = form
                weights[at + 1] = (room.prime - 1,)
                condition = (0, tuple(weights), len(room))
                self.same([lead is None for lead in steps(before, condition)], [True] * (len(room) - 1) + [False])
                before = cut(before, condition)
            self.same(state_of(before), state_of(room.span()))

    def test_least_orders_against_all_rules(self):
        draw = drawing(344)
        for _ in range(60):
            room = drawn_room(draw, (2, 3), 6)
            for e in range(len(room) + 1):
                rules = [rule for rule in itertools.product(range(room.prime), repeat=e)
                         if is_rule_by_definition(room, (1, *rule))]
                self.same(bool(rules), e >= room.least_order)
                if rules:
                    self.same(len(rules), room.prime ** (free_number(room.span(), within=e) - 1))
                    # the rules are the first forms of the rows that are low enough
                    row = next(row for row in room.span().key() if row[0][:1] not in ((), (0,)))
                    self.assertLessEqual(height_of(row, room.span().lifts), e)


class Changes(Case):
    def test_put_and_take_back(self):
        room = LetterRoom(5, 1)
        for at, column in enumerate(LETTERS):
            self.same([room.put(*column), len(room)], [None, at + 1])
        self.same(state(room), state(LetterRoom(5, 1, LETTERS)))
        for at in range(len(LETTERS) - 1, -1, -1):
            self.same([room.take_back(), room.columns()], [None, LETTERS[:at]])
        before = state(room)
        self.raises(NothingLeft, {}, room.take_back)
        self.same(state(room), before)
        wide = LetterRoom(5, 3)
        wide.put(1, 2, 3)
        self.same(wide.columns(), [(1, 2, 3)])

    def test_walks(self):
        self.assertTrue(inspect.isgeneratorfunction(LetterRoom.walk))
        draw = drawing(345)
        for _ in range(20):
            room = drawn_room(draw)
            found = list(room.walk())
            self.assertEqual(len(found), len(room) + 1)
            for many, pair in enumerate(found):
                part = LetterRoom(room.prime, room.width, room.columns()[:many])
                self.same(pair, (part.least_order, part.heights))
                self.same(sum(pair[1]), room.width * (many + 1))

    def test_60_columns_and_one_more(self):
        draw = drawing(346)
        for width in (1, 3):
            columns = [tuple(draw.randrange(97) for _ in range(width)) for _ in range(61)]
            room = LetterRoom(97, width, columns[:60])
            before = state(room)
            self.same([len(room), sum(room.heights)], [60, width * 61])
            self.raises(Full, {"most": 60}, room.put, *columns[60])
            self.raises(InvalidColumn, {"at": 0}, room.put, *columns[60], 1)
            self.raises(Full, {"most": 60}, LetterRoom, 97, width, columns)
            self.raises(InvalidColumn, {"at": 60}, LetterRoom, 97, width, columns[:60] + [None])
            self.raises(InvalidColumn, {"at": 70}, LetterRoom, 97, width, columns + columns[:9] + [None])
            self.same(state(room), before)
            room.take_back()
            room.put(*columns[60])
            self.same(len(room), 60)

    def test_wrong_letters(self):
        room = LetterRoom(5, 2, [(1, 2)])
        before = state(room)
        for value in NO_COLUMNS:
            self.raises(InvalidColumn, {"at": 0}, room.put, value)
            if isinstance(value, (tuple, list)) and (value != [1, 2]):
                self.raises(InvalidColumn, {"at": 0}, room.put, *value)
        for value in [*WRONG, (), -1, 5]:
            self.raises(InvalidColumn, {"at": 0}, room.put, 1, value)
            self.raises(InvalidColumn, {"at": 0}, room.put, value, 1)
        self.raises(InvalidColumn, {"at": 0}, room.put)
        self.same(state(room), before)

    def test_twins_are_independent(self):
        room = LetterRoom(5, 1, LETTERS)
        twin = room.twin()
        self.same([state(twin), twin == room], [state(room), True])
        twin.put(4)
        room.take_back()
        self.same([room.columns(), twin.columns(), twin == room], [LETTERS[:-1], LETTERS + [(4,)], False])


class Together(Case):
    def test_sums(self):
        draw = drawing(347)
        for _ in range(15):
            one = drawn_room(draw, (3, 97), 6)
            columns = [tuple(draw.randrange(one.prime) for _ in range(2)) for _ in range(len(one))]
            other = LetterRoom(one.prime, 2, columns)
            found = one + other
            self.same([found.prime, found.width, len(found)], [one.prime, one.width + 2, len(one)])
            self.same(found.columns(), [first + second for first, second in zip(one.columns(), columns)])
            self.same([found.span().lifts, sum(found.heights)], [(0,) + (1,) * found.width, found.width * (len(one) + 1)])
            self.assertTrue(in_by_definition(found, row_in(draw, found.span())))
            self.assertGreaterEqual(found.least_order, max(one.least_order, other.least_order))

    def test_wide_rooms_do_all_that_others_do(self):
        room = LetterRoom(5, 3, [(1, 2, 3)])
        wide = room + room + room
        self.same(repr(wide), "LetterRoom(p 5, width 9, 1 columns)")
        wide.put(*range(5), *range(4))
        self.same(wide.columns(), [(1, 2, 3, 1, 2, 3, 1, 2, 3), (0, 1, 2, 3, 4, 0, 1, 2, 3)])
        self.same([len(list(wide.walk())), wide.least_order, sum(wide.heights)], [3, 2, 27])
        self.raises(InvalidColumn, {"at": 0}, wide.put, 1, 2, 3)
        twin = wide.twin()
        self.same([twin == wide, repr(twin)], [True, "LetterRoom(p 5, width 9, 2 columns)"])
        twin.take_back()
        self.same([twin == room + room + room, twin == wide, len(wide), len(room)], [True, False, 2, 1])
        self.same((twin + room).width, 12)
        for _ in range(59):
            twin.put(*[0] * 9)
        self.raises(Full, {"most": 60}, twin.put, *[0] * 9)

    def test_sums_are_independent(self):
        one, other = LetterRoom(5, 1, [(1,)]), LetterRoom(5, 1, [(2,)])
        found = one + other
        one.put(3)
        found.put(4, 4)
        self.same([one.columns(), other.columns(), found.columns()], [[(1,), (3,)], [(2,)], [(1, 2), (4, 4)]])
        self.same((one + one).columns(), [(1, 1), (3, 3)])
        self.same((LetterRoom(5, 1) + LetterRoom(5, 2)).heights, (0, 1, 1, 1))

    def test_unlike(self):
        room = LetterRoom(5, 1, [(1,)])
        for value in [*WRONG, (), 0, (1,), [(1,)], LetterRoom(7, 1, [(1,)]), LetterRoom(5, 1), LetterRoom(5, 1, [(1,), (1,)])]:
            with self.assertRaises(Unlike) as caught:
                room + value
            self.assertEqual(caught.exception.code, "Unlike")
        self.same(room.columns(), [(1,)])

    def test_equality(self):
        room = LetterRoom(5, 2, [(1, 2), (3, 4)])
        self.same([room == LetterRoom(5, 2, ((1, 2), (3, 4))), room != LetterRoom(5, 2, ((1, 2), (3, 4)))], [True, False])
        for value in [*WRONG, (), [(1, 2), (3, 4)], LetterRoom(7, 2, [(1, 2), (3, 4)]), LetterRoom(5, 2, [(1, 2)]),
                      LetterRoom(5, 2, [(3, 4), (1, 2)]), LetterRoom(5, 1, [(1,), (3,)]), repr(room)]:
            self.same([room == value, room != value, value == room], [False, True, False])
        self.same([LetterRoom(5, 1) == LetterRoom(5, 2), LetterRoom(5, 1) == LetterRoom(7, 1), LetterRoom(5, 1) == LetterRoom(5, 1)],
                  [False, False, True])


class WrongRooms(Case):
    def test_errors_in_their_order(self):
        for value in [*WRONG, 0, -5, 4, 101, 10 ** 5000]:
            self.raises(NotPrime, {"value": value}, LetterRoom, value, None, None)
        for value in [*WRONG, (), 0, 4, -1, 10 ** 5000]:
            self.raises(InvalidNumber, {"value": value}, LetterRoom, 5, value, None)
        for value in (None, True, 3, "0", "", Span(5, (0,))):
            self.raises(InvalidColumn, {"at": -1}, LetterRoom, 5, 2, value)
        for value in NO_COLUMNS:
            self.raises(InvalidColumn, {"at": 1}, LetterRoom, 5, 2, [(1, 2), value, None])
            self.raises(InvalidColumn, {"at": 0}, LetterRoom, 5, 2, (value,))


if __name__ == "__main__":
    unittest.main()
