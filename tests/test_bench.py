import unittest

from cases import WRONG, Case, bent, drawing, drawn_condition, drawn_form, drawn_row
from freetops.bench import Bench
from freetops.conditions import cut
from freetops.curves import Curve
from freetops.errors import (FreeError, Full, InDraft, InvalidColumn, InvalidCondition, InvalidDeed, InvalidLifts, InvalidName,
                             InvalidNumber, InvalidRow, Missing, NoDraft, NothingLeft, NotPrime, NotWhole, SamePoint, Still, Taken,
                             UnknownKept, UnknownName, UnknownPoint, WrongKind)
from freetops.letters import LetterRoom
from freetops.lifting import lift_place
from freetops.points import PointRoom
from freetops.spans import Span

ROWS = (((0, 1), (3,)), ((2,), (0, 1)))
SPAN = ("span", "a", (0, 0), ROWS)
LETTERS = ("letters", "b", 1)
POINTS = ("points", "c", 2, 3)
CURVE = ("curve", "d", ((1,), (0, 1), (1, 0, 1)))
NEW = (SPAN, LETTERS, POINTS, CURVE)
CHANGES = (("put", "a", ((1,), (1,))), ("cut", "a", (2, ((1,), (1,)), 1)), ("lift", "a", 0, 3), ("column", "b", (4,)),
           ("point", "c", 2, (1, 2)))


def state(bench):
    """All that tells a bench."""
    rooms = [(name, bench.kind_of(name), repr(bench.holding(name))) for name in bench.names()]
    kept = []
    while True:
        try:
            kept.append(bench.kept(len(kept)))
        except UnknownKept:
            break
    return (repr(bench), bench.prime, bench.text(), rooms, bench.history(), bench.journal(), bench.in_draft, kept, bench.log(), len(bench))


def full_bench():
    bench = Bench(5)
    bench.do(*NEW)
    return bench


def names(many):
    """Ascending names."""
    letters = "abcdefghijklmnopqrstuvwxyz"
    return [one + other for one in letters for other in letters][:many]


def drawn_deed(draw, bench):
    """A deed that is often refused."""
    p = bench.prime
    name = draw.choice(["a", "b", "c", "d", "e", "f"])
    place = draw.randrange(3)
    return draw.choice([
        ("span", name, (0, 1), [drawn_row(draw, p, 2, 2) for _ in range(2)]), ("letters", name, draw.randrange(1, 4)),
        ("points", name, draw.randrange(1, 3), draw.randrange(1, 4)), ("curve", name, [drawn_form(draw, p, 2) for _ in range(2)]),
        ("put", name, drawn_row(draw, p, 2, 3)), ("cut", name, drawn_condition(draw, p, 2, 2, 2)),
        ("lift", name, place, draw.randrange(-3, 4)), ("column", name, tuple(draw.randrange(p) for _ in range(place + 1))),
        ("point", name, draw.randrange(p), tuple(draw.randrange(p) for _ in range(place + 1))),
        ("lose", name, draw.randrange(p)), ("drop", name)])


class Holdings(Case):
    def test_a_new_bench(self):
        bench = Bench(prime=5)
        self.same(state(bench), ("Bench(p 5, 0 holdings)", 5, "bench 5\n", [], (0, 0), [], False, [], [], 0))
        self.same([bool(bench), repr(Bench(97)), bench.names()], [True, "Bench(p 97, 0 holdings)", []])
        for value in [*WRONG, 0, -5, 4, 101, 10 ** 5000]:
            self.raises(NotPrime, {"value": value}, Bench, value)

    def test_new_holdings(self):
        bench = Bench(5)
        self.same([bench.do(*NEW), bench.names(), len(bench), repr(bench)], [None, ["a", "b", "c", "d"], 4, "Bench(p 5, 4 holdings)"])
        self.same([bench.kind_of(name) for name in bench.names()], ["span", "letters", "points", "curve"])
        self.same([bench.holding("a") == Span(5, (0, 0), ROWS), bench.holding(name="b") == LetterRoom(5, 1),
                   bench.holding("c") == PointRoom(5, 2, 3), bench.holding("d") == Curve(5, [(1,), (0, 1), (1, 0, 1)])], [True] * 4)
        self.same([bench.history(), bench.kind_of(name="d")], [(1, 0), "curve"])
        # lists may stand for lists, and spans without rows
        bench.do(("span", "e", [0, 0], [*ROWS]), ("span", "f", (3,), ()), ("curve", "g", [(1,), (0, 1), (1, 0, 1)]))
        self.same([bench.holding("e") == bench.holding("a"), bench.holding("f").rank, bench.holding("g") == bench.holding("d")],
                  [True, 0, True])

    def test_changes(self):
        bench = full_bench()
        span = Span(5, (0, 0), ROWS)
        bench.do(CHANGES[0])
        span = Span(5, (0, 0), span.key() + [((1,), (1,))])
        self.same(bench.holding("a") == span, True)
        bench.do(CHANGES[1])
        span = cut(span, CHANGES[1][2])
        self.same(bench.holding("a") == span, True)
        bench.do(CHANGES[2])
        self.same(bench.holding("a") == lift_place(span, 0, 3), True)
        bench.do(CHANGES[3], CHANGES[3], CHANGES[4], ("point", "c", 0, (4, 4)))
        self.same([bench.holding("b").columns(), bench.holding("c").heard()], [[(4,), (4,)], [(2, (1, 2)), (0, (4, 4))]])
        bench.do(("lose", "c", 2), ("drop", "a"))
        self.same([bench.holding("c").heard(), bench.names(), "a" in bench], [[(0, (4, 4))], ["b", "c", "d"], False])
        bench.do(("letters", "a", 3))
        self.same([bench.kind_of("a"), len(bench)], ["letters", 4])

    def test_rooms_that_are_given_out_are_independent(self):
        bench = full_bench()
        bench.do(CHANGES[3], CHANGES[4])
        letters, points = bench.holding("b"), bench.holding("c")
        letters.put(1)
        points.lose(2)
        self.same([bench.holding("b").columns(), bench.holding("c").heard()], [[(4,)], [(2, (1, 2))]])
        bench.do(("column", "b", (2,)))
        self.same(letters.columns(), [(4,), (1,)])
        bench.undo()
        self.same(bench.holding("b").columns(), [(4,)])

    def test_unknown_names(self):
        bench = full_bench()
        for value in [*WRONG, "e", "aa", "A", (), 0, ("a",), ["a"], "a ", 10 ** 5000]:
            self.raises(UnknownName, {"name": value}, bench.kind_of, value)
            self.raises(UnknownName, {"name": value}, bench.holding, value)
            self.same([value in bench, value not in bench], [False, True])
        self.same([name in bench for name in "abcde"], [True, True, True, True, False])

    def test_equality(self):
        bench = full_bench()
        other = Bench(5)
        for deed in NEW[::-1]:
            other.do(deed)
        self.same([bench == other, bench != other], [True, False])
        # the history, the kept papers and the log do not count, and heard points may stand in any order
        other.say("names")
        other.keep(("whole", "a"))
        bench.do(("point", "c", 1, (0, 0)), ("point", "c", 2, (0, 1)))
        self.same(bench == other, False)
        other.do(("point", "c", 2, (0, 1)), ("point", "c", 1, (0, 0)))
        self.same([bench == other, bench.text() == other.text()], [True, False])
        for deeds in ([("drop", "a")], [("lift", "a", 0, 1)], [("column", "b", (0,))], [("lose", "c", 1)], [("letters", "e", 1)],
                      [("drop", "a"), ("letters", "a", 1)], [("drop", "d"), ("curve", "d", ((1,), (0, 1)))]):
            third = bench.twin()
            third.do(*deeds)
            self.same([third == bench, bench == third, third != bench], [False, False, True])
        for value in [*WRONG, bench.text(), Bench(7), repr(bench)]:
            self.same([bench == value, value == bench], [False, False])
        self.same([Bench(5) == Bench(5), Bench(5) == Bench(7)], [True, False])

    def test_24_holdings_and_one_more(self):
        bench = Bench(2)
        bench.do(*[("letters", name, 1) for name in names(24)])
        before = state(bench)
        self.same(len(bench), 24)
        for deed in (("letters", "zz", 1), ("letters", "zz", None), ("span", "zz", None, None), ("points", "zz", None, None),
                     ("curve", "zz", None)):
            self.raises(Full, {"most": 24}, bench.do, deed)
            self.raises(Taken, {"name": "aa"}, bench.do, deed[:1] + ("aa",) + deed[2:])
            self.raises(InvalidName, {"name": "zz1"}, bench.do, deed[:1] + ("zz1",) + deed[2:])
        self.raises(Full, {"most": 24}, bench.do, ("drop", "aa"), ("letters", "zz", 1), ("letters", "zy", 1))
        self.same(state(bench), before)
        bench.do(("drop", "aa"), ("letters", "zz", 1))
        self.same([len(bench), bench.names()[-1]], [24, "zz"])


class Deeds(Case):
    def refused(self, error, worth, *deeds):
        bench = full_bench()
        bench.do(*CHANGES)
        bench.do()
        before = state(bench)
        for call in (bench.do, bench.tried):
            self.raises(error, worth, call, *deeds)
            # nothing of a call is done, whatever stands ahead
            self.raises(error, worth, call, ("letters", "x", 1), ("column", "x", (1,)), ("lift", "a", 0, 1), *deeds)
        self.same(state(bench), before)

    def test_values_that_are_no_deeds(self):
        words = {"span": 4, "letters": 3, "points": 4, "curve": 3, "put": 3, "cut": 3, "lift": 4, "column": 3, "point": 4, "lose": 3, "drop": 2}
        wrong = [*WRONG, (), 0, ("spam", "a"), ("Drop", "a"), ["drop", "a"], (["drop"], "a"), (None, "a"), (("drop",), "a"), ("", "a"),
                 ("undo",), (Span(5, (0,)), "a")]
        for word, many in words.items():
            wrong.extend((word, *[None] * (items - 1)) for items in range(1, 7) if items != many)
        bench = full_bench()
        before = state(bench)
        for value in wrong:
            self.raises(InvalidDeed, {"at": 0}, bench.do, value, None)
            # ahead of everything else
            self.raises(InvalidDeed, {"at": 2}, bench.do, ("drop", "zz"), ("put", None, None), value)
            self.raises(InvalidDeed, {"at": 1}, bench.tried, ("drop", "a"), value, ())
        self.same(state(bench), before)

    def test_names_of_new_holdings(self):
        for deed in NEW:
            for value in [*[item for item in WRONG if item != "x"], "A", "abcdefg", "a b", "a1", (), 0, ("e",), ["e"], "e\n", 10 ** 5000]:
                self.refused(InvalidName, {"name": value}, deed[:1] + (value,) + (None,) * (len(deed) - 2))
            for name in "abcd":
                self.refused(Taken, {"name": name}, deed[:1] + (name,) + (None,) * (len(deed) - 2))

    def test_names_of_changed_holdings(self):
        kinds = {"put": "a", "cut": "a", "lift": "a", "column": "b", "point": "c", "lose": "c"}
        for word, own in kinds.items():
            more = (None,) * (2 if word in ("lift", "point") else 1)
            for value in [*[item for item in WRONG if item != "x"], "e", "A", (), 0, ("a",), ["a"], 10 ** 5000]:
                self.refused(UnknownName, {"name": value}, (word, value, *more))
            for name in "abcd":
                if name != own:
                    self.refused(WrongKind, {"name": name}, (word, name, *more))
        for value in [*[item for item in WRONG if item != "x"], "e", "A", (), 0, ("a",), ["a"]]:
            self.refused(UnknownName, {"name": value}, ("drop", value))

    def test_what_the_constructors_raise(self):
        for value in (None, (), 0, "0"):
            self.refused(InvalidLifts, {"at": -1}, ("span", "e", value, None))
        self.refused(InvalidLifts, {"at": 1}, ("span", "e", [0, True], None))
        self.refused(InvalidRow, {"at": -1}, ("span", "e", (0, 0), None))
        self.refused(InvalidRow, {"at": 1}, ("span", "e", (0, 0), [((1,), ()), [(1,), ()]]))
        for value in [*WRONG, 0, 4]:
            self.refused(InvalidNumber, {"value": value}, ("letters", "e", value))
            self.refused(InvalidNumber, {"value": value}, ("points", "e", value, None))
        self.refused(InvalidNumber, {"value": 21}, ("points", "e", 3, 21))
        for value in [*WRONG, (), ((0, 1),), ((5,), (1,))]:
            self.refused(InvalidRow, {"at": 0}, ("curve", "e", value))
        self.refused(NotWhole, {"divisor": (0, 1)}, ("curve", "e", [(0, 1), ()]))
        self.refused(Still, {}, ("curve", "e", ((1,), (2,))))

    def test_what_the_changes_raise(self):
        for value in [*WRONG, 0, (), ((1,),), ((1,), (1,), ()), [(1,), ()], ((1,), (5,)), ((1,), [1])]:
            self.refused(InvalidRow, {"at": 0}, ("put", "a", value))
        for value in [*WRONG, (), (2, ((1,),), 1), (2, ((1,), (1,)), 0), (5, ((1,), (1,)), 1), [2, ((1,), (1,)), 1],
                      (2, [(1,), (1,)], 1), (2, ((1,), (1,)), 41), (2, ((1,), (1,)), True)]:
            self.refused(InvalidCondition, {"at": 0}, ("cut", "a", value))
        for value in [*WRONG, -1, 2, (0,)]:
            self.refused(InvalidNumber, {"value": value}, ("lift", "a", value, None))
        for value in [*WRONG, -21, 21, (0,)]:
            self.refused(InvalidNumber, {"value": value}, ("lift", "a", 1, value))
        for value in [*WRONG, 0, (), (5,), (-1,), (1, 2), [1], ((1,),), 1]:
            self.refused(InvalidColumn, {"at": 0}, ("column", "b", value))
        for value in [*WRONG, -1, 5, (0,)]:
            self.refused(InvalidNumber, {"value": value}, ("point", "c", value, None))
            self.refused(UnknownPoint, {"point": value}, ("lose", "c", value))
        self.refused(SamePoint, {"point": 2}, ("point", "c", 2, None))
        self.refused(UnknownPoint, {"point": 3}, ("lose", "c", 3))
        for value in [*WRONG, 0, (), (1,), (1, 2, 3), [1, 2], (1, 5), (True, 1), ((1, 2),)]:
            self.refused(InvalidColumn, {"at": 0}, ("point", "c", 3, value))

    def test_60_columns_and_40_points(self):
        bench = Bench(97)
        bench.do(("letters", "a", 2), ("points", "b", 1, 20), *[("column", "a", (at, 1)) for at in range(60)],
                 *[("point", "b", at, (at,)) for at in range(40)])
        before = state(bench)
        self.same([len(bench.holding("a")), len(bench.holding("b")), bench.history()], [60, 40, (1, 0)])
        self.raises(Full, {"most": 60}, bench.do, ("column", "a", (1, 1)))
        self.raises(InvalidColumn, {"at": 0}, bench.do, ("column", "a", (1,)))
        self.raises(Full, {"most": 40}, bench.do, ("point", "b", 40, (1,)))
        self.raises(InvalidColumn, {"at": 0}, bench.do, ("point", "b", 40, [1]))
        self.raises(SamePoint, {"point": 39}, bench.do, ("point", "b", 39, (1,)))
        self.same(state(bench), before)
        bench.do(("lose", "b", 7), ("point", "b", 40, (1,)))
        self.same([len(bench.holding("b")), bench.holding("b").heard()[-1]], [40, (40, (1,))])

    def test_spans_change_without_a_bound_on_their_number(self):
        bench = Bench(5)
        bench.do(("span", "a", (0,), [((1,),)]), *[("lift", "a", 0, 1) for _ in range(100)], *[("cut", "a", (0, ((1,),), 1))] * 3)
        self.same([bench.holding("a").lifts, bench.holding("a").heights, bench.history()], [(100,), (101,), (1, 0)])

    def test_the_first_wrong_deed_counts(self):
        self.refused(Taken, {"name": "b"}, ("letters", "b", 1), ("drop", "zz"))
        self.refused(UnknownName, {"name": "e"}, ("put", "e", None), ("letters", "e", 1))
        self.refused(UnknownName, {"name": "a"}, ("drop", "a"), ("put", "a", ((1,), ())))
        self.refused(Taken, {"name": "e"}, ("letters", "e", 1), ("letters", "e", 1))

    def test_bent_deeds(self):
        bench = full_bench()
        bench.do(*CHANGES)
        before = state(bench)
        refused = 0
        for deed in [deed[:1] + ("e",) + deed[2:] for deed in NEW] + list(CHANGES[:4]) + [("point", "c", 3, (1, 2)), ("lose", "c", 2)]:
            for value in bent(deed):
                twin = bench.twin()
                try:
                    twin.do(value)
                except (FreeError, Missing):
                    refused += 1
                    self.same(state(twin), before)
                else:
                    # what was done is one step, and its text can be read back
                    self.same(twin.history(), (3, 0))
                    twin.undo()
                    self.same([twin.text(), twin == bench], [bench.text(), True])
        self.assertGreater(refused, 400)
        self.same(state(bench), before)


class Steps(Case):
    def test_undo_and_redo(self):
        bench = Bench(5)
        self.raises(NothingLeft, {}, bench.undo)
        self.raises(NothingLeft, {}, bench.redo)
        texts = [bench.text()]
        for deed in NEW + CHANGES:
            bench.do(deed)
            texts.append(bench.text())
        many = len(texts) - 1
        for at in range(many - 1, -1, -1):
            self.same([bench.undo(), bench.text(), bench.history(), len(bench.journal())], [None, texts[at], (at, many - at), at])
        for at in range(1, many + 1):
            self.same([bench.redo(), bench.text(), bench.history()], [None, texts[at], (at, many - at)])
        before = state(bench)
        self.raises(NothingLeft, {}, bench.redo)
        self.same(state(bench), before)
        bench.undo()
        bench.undo()
        bench.do(("drop", "a"))
        self.same([bench.history(), bench.journal()[-1]], [(many - 1, 0), [("drop", "a")]])
        self.raises(NothingLeft, {}, bench.redo)

    def test_calls_without_deeds_and_refused_calls_are_no_steps(self):
        bench = full_bench()
        bench.undo()
        before = state(bench)
        bench.do()
        self.raises(UnknownName, {"name": "q"}, bench.do, ("drop", "q"))
        self.raises(InvalidDeed, {"at": 0}, bench.do, ())
        self.same(state(bench), before)
        bench.redo()
        self.same(bench.history(), (1, 0))

    def test_deeds_that_change_nothing_are_steps(self):
        bench = full_bench()
        bench.do(("put", "a", ((), ())))
        bench.do(("lift", "a", 0, 0))
        bench.do(("letters", "e", 1), ("drop", "e"))
        self.same([bench.history(), bench == full_bench()], [(4, 0), True])

    def test_60_steps_and_one_more(self):
        bench = Bench(5)
        for at in range(60):
            bench.do(("letters" if at % 2 == 0 else "drop", "a", 1)[:3 - at % 2])
        before = state(bench)
        self.same(bench.history(), (60, 0))
        self.raises(Full, {"most": 60}, bench.do, ("letters", "a", 1))
        self.raises(Full, {"most": 60}, bench.do, ("drop", None))
        self.raises(InvalidDeed, {"at": 1}, bench.do, ("drop", None), ())
        self.raises(Full, {"most": 60}, bench.tried, ("letters", "a", 1))
        self.raises(Full, {"most": 60}, bench.begin_draft)
        self.same([bench.do(), bench.tried()], [None, "bench 5\n"])
        self.same(state(bench), before)
        bench.undo()
        self.raises(Taken, {"name": "a"}, bench.do, ("letters", "a", 1))
        bench.do(("letters", "b", 1))
        self.same([bench.history(), bench.names()], [(60, 0), ["a", "b"]])

    def test_journals(self):
        bench = Bench(5)
        lifts, rows, forms = [0, 0], [ROWS[0], ROWS[1]], [(1,), (0, 1)]
        bench.do(("span", "a", lifts, rows), ("curve", "d", forms))
        bench.do(CHANGES[0])
        lifts.append(1)
        rows.clear()
        forms[0] = None
        wanted = [[SPAN, ("curve", "d", ((1,), (0, 1)))], [CHANGES[0]]]
        self.same([bench.journal(), bench.holding("a").lifts], [wanted, (0, 0)])
        found = bench.journal()
        found[0].clear()
        found.append(None)
        self.same(bench.journal(), wanted)
        bench.undo()
        self.same(bench.journal(), wanted[:1])
        bench.redo()
        self.same(bench.journal(), wanted)

    def test_tried(self):
        draw = drawing(661)
        done = 0
        for _ in range(25):
            bench = full_bench()
            for _ in range(20):
                deeds = [drawn_deed(draw, bench) for _ in range(draw.randrange(3))]
                before = state(bench)
                try:
                    text = bench.tried(*deeds)
                except (FreeError, Missing) as wrong:
                    self.same(state(bench), before)
                    self.raises(type(wrong), vars(wrong), bench.do, *deeds)
                    self.same(state(bench), before)
                    continue
                self.same(state(bench), before)
                bench.do(*deeds)
                self.same(bench.text(), text)
                done += 1
        self.assertGreater(done, 100)

    def test_twins_are_independent(self):
        bench = full_bench()
        bench.do(*CHANGES)
        bench.undo()
        bench.keep(("whole", "a"))
        bench("names")
        twin = bench.twin()
        self.same([state(twin), twin == bench], [state(bench), True])
        before = state(bench)
        twin.redo()
        twin.do(("drop", "a"))
        twin.keep(("order", "b", 0))
        twin("undo")
        self.same(state(bench), before)
        other = state(twin)
        bench.do(("drop", "b"))
        bench.begin_draft()
        bench.say("x")
        self.same(state(twin), other)
        # a draft goes along
        bench.do(("letters", "x", 1))
        third = bench.twin()
        self.same([state(third), third.in_draft], [state(bench), True])
        third.keep_draft()
        self.same([bench.in_draft, bench.history(), third.history()], [True, (2, 0), (3, 0)])
        bench.give_up()
        self.same(["x" in bench, "x" in third], [False, True])


class Drafts(Case):
    def test_kept_drafts(self):
        bench = full_bench()
        bench.do(CHANGES[0])
        bench.undo()
        self.same([bench.begin_draft(), bench.in_draft, bench.history(), bench.journal()], [None, True, (1, 1), [list(NEW)]])
        bench.do(CHANGES[1], CHANGES[2])
        bench.do()
        bench.do(CHANGES[3])
        self.same([bench.history(), bench.journal(), bench.holding("b").columns()], [(1, 1), [list(NEW)], [(4,)]])
        self.same([bench.keep_draft(), bench.in_draft, bench.history(), bench.journal()[1]],
                  [None, False, (2, 0), list(CHANGES[1:4])])
        bench.undo()
        self.same(bench == full_bench(), True)
        bench.redo()
        self.same([bench.holding("b").columns(), bench.history()], [[(4,)], (2, 0)])

    def test_drafts_that_are_given_up(self):
        bench = full_bench()
        bench.do(CHANGES[0])
        bench.undo()
        text = bench.text()
        bench.begin_draft()
        bench.do(CHANGES[1], ("drop", "b"))
        number = bench.keep(("whole", "a"))
        bench("names")
        paper = bench.kept(number)
        self.same([bench.give_up(), bench.in_draft, bench.text(), bench.history()], [None, False, text, (1, 1)])
        # kept papers and the log stay
        self.same([bench.kept(number), bench.log()], [paper, [("names", "a c d")]])
        bench.redo()
        self.same(bench.history(), (2, 0))

    def test_drafts_without_deeds(self):
        bench = full_bench()
        bench.do(CHANGES[0])
        bench.undo()
        before = state(bench)
        for close in (bench.keep_draft, bench.give_up):
            bench.begin_draft()
            bench.do()
            self.raises(UnknownName, {"name": "q"}, bench.do, ("drop", "q"))
            close()
            self.same(state(bench), before)

    def test_refused_in_drafts(self):
        bench = full_bench()
        before = state(bench)
        self.raises(NoDraft, {}, bench.keep_draft)
        self.raises(NoDraft, {}, bench.give_up)
        self.same(state(bench), before)
        bench.begin_draft()
        bench.do(CHANGES[0])
        before = state(bench)
        for call in (bench.undo, bench.redo, bench.begin_draft):
            self.raises(InDraft, {}, call)
        self.raises(InvalidDeed, {"at": 1}, bench.do, CHANGES[0], None)
        self.raises(UnknownName, {"name": "q"}, bench.do, CHANGES[0], ("drop", "q"))
        self.same(state(bench), before)
        bench.keep_draft()
        self.same(bench.journal()[1], [CHANGES[0]])

    def test_long_drafts_are_one_step(self):
        bench = Bench(5)
        for _ in range(59):
            bench.do(("letters", "a", 1), ("drop", "a"))
        bench.begin_draft()
        for _ in range(70):
            bench.do(("letters", "a", 1), ("drop", "a"))
        self.same([bench.tried(("letters", "b", 1)), bench.history()], ["bench 5\nletters b 1\n", (59, 0)])
        bench.keep_draft()
        self.same([bench.history(), len(bench.journal()[-1])], [(60, 0), 140])
        before = state(bench)
        self.raises(Full, {"most": 60}, bench.begin_draft)
        self.same(state(bench), before)

    def test_in_draft_comes_ahead_of_a_full_journal(self):
        bench = Bench(5)
        for _ in range(59):
            bench.do(("letters", "a", 1), ("drop", "a"))
        bench.begin_draft()
        self.raises(InDraft, {}, bench.begin_draft)
        with self.assertRaises(AttributeError):
            bench.in_draft = False

    def test_drawn_deeds_against_a_bench_that_is_made_anew(self):
        draw = drawing(662)
        for _ in range(20):
            bench, done, undone = full_bench(), [list(NEW)], []
            draft = None
            for _ in range(40):
                kind = draw.randrange(12)
                try:
                    if kind == 0:
                        bench.undo()
                        undone.append(done.pop())
                    elif kind == 1:
                        bench.redo()
                        done.append(undone.pop())
                    elif kind == 2:
                        bench.begin_draft()
                        draft = []
                    elif kind == 3:
                        bench.keep_draft()
                        if draft:
                            done, undone = done + [draft], []
                        draft = None
                    elif kind == 4:
                        bench.give_up()
                        draft = None
                    else:
                        deeds = [drawn_deed(draw, bench) for _ in range(draw.randrange(1, 3))]
                        bench.do(*deeds)
                        if draft is None:
                            done, undone = done + [deeds], []
                        else:
                            draft = draft + deeds
                except (FreeError, Missing, NothingLeft):
                    pass
                again = Bench(5)
                for step in done:
                    again.do(*step)
                self.same(bench.history(), (len(done), len(undone)))
                self.same(bench.journal(), again.journal())
                for deed in draft or []:
                    again.do(deed)
                self.same([again == bench, again.text()], [True, bench.text()])


if __name__ == "__main__":
    unittest.main()
