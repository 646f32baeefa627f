import unittest

from cases import WRONG, Case, drawing, drawn_condition, drawn_row, drawn_span, row_in, state_of
from freetops.conditions import cut, steps
from freetops.errors import Full, InvalidCondition, InvalidDeed, InvalidNumber, InvalidRow, NothingLeft
from freetops.growth import Growth, played
from freetops.lifting import lift_place
from freetops.spans import Span, all_rows

SPAN = Span(5, (0, 0), [((0, 1), (3,)), ((2,), (0, 1))])
ROW = ((1,), ())
CONDITION = (2, ((1,), (1,)), 1)


def state(growth):
    return state_of(growth.span()), growth.heights, growth.history(), growth.deeds(), repr(growth)


def drawn_deed(draw, span):
    kind = draw.randrange(4)
    if kind == 0:
        return "put", drawn_row(draw, span.prime, span.places, 4)
    if kind == 1:
        return "put", row_in(draw, span, 2)
    if kind == 2:
        return "cut", drawn_condition(draw, span.prime, span.places)
    return "lift", draw.randrange(span.places), draw.randrange(-20, 21)


class Deeds(Case):
    def test_a_new_growth(self):
        growth = Growth(span=SPAN)
        self.same(state(growth), (state_of(SPAN), (1, 1), (0, 0), [], "Growth(p 5, 0 deeds)"))
        self.same(state_of(growth.first()), state_of(SPAN))

    def test_put(self):
        growth = Growth(SPAN)
        self.same([growth.put(ROW), growth.put(row=ROW), growth.put(((), ()))], [True, False, False])
        self.same(state_of(growth.span()), state_of(Span(5, (0, 0), [*SPAN.key(), ROW])))
        # rows that are not new are deeds, too
        self.same([growth.history(), growth.deeds()], [(3, 0), [("put", ROW), ("put", ROW), ("put", ((), ()))]])

    def test_cut(self):
        growth = Growth(all_rows(5, (0, 0)))
        self.same([growth.cut(CONDITION), growth.cut(condition=CONDITION), growth.span().key()],
                  [[0], [None], [((4,), (1,)), ((3, 1), ())]])
        self.same([growth.deeds(), growth.heights], [[("cut", CONDITION), ("cut", CONDITION)], (0, 1)])

    def test_lift(self):
        growth = Growth(SPAN)
        self.same([growth.lift(1, 2), growth.heights, growth.lift(0), growth.lift(place=0, by=0)], [None, (2, 2), None, None])
        self.same([growth.span().lifts, growth.deeds()], [(1, 2), [("lift", 1, 2), ("lift", 0, 1), ("lift", 0, 0)]])

    def test_drawn_deeds_do_as_the_functions_do(self):
        draw = drawing(231)
        for _ in range(25):
            span = drawn_span(draw)
            growth = Growth(span)
            spans = [span]
            deeds = []
            for _ in range(8):
                deed = drawn_deed(draw, spans[-1])
                before = spans[-1]
                if deed[0] == "put":
                    self.same(growth.put(deed[1]), deed[1] not in before)
                    spans.append(Span(before.prime, before.lifts, before.key() + [deed[1]]))
                elif deed[0] == "cut":
                    self.same(growth.cut(deed[1]), steps(before, deed[1]))
                    spans.append(cut(before, deed[1]))
                else:
                    growth.lift(deed[1], deed[2])
                    spans.append(lift_place(before, deed[1], deed[2]))
                deeds.append(deed)
                self.same([state_of(growth.span()), growth.deeds(), growth.heights],
                          [state_of(spans[-1]), deeds, spans[-1].heights])
                self.same(growth.span() == spans[-1], True)
            for at in range(7, -1, -1):
                growth.undo()
                self.same([state_of(growth.span()), growth.history()], [state_of(spans[at]), (at, 8 - at)])
            for at in range(1, 9):
                growth.redo()
                self.same([state_of(growth.span()), growth.history()], [state_of(spans[at]), (at, 8 - at)])
            self.same([state_of(growth.first()), state_of(played(span, deeds).span())], [state_of(span), state_of(spans[-1])])

    def test_deeds_are_new_lists(self):
        growth = Growth(SPAN)
        growth.put(ROW)
        growth.deeds().append(1)
        growth.cut(CONDITION).append(1)
        self.same([growth.deeds(), growth.history()], [[("put", ROW), ("cut", CONDITION)], (2, 0)])

    def test_the_heights_are_told_not_set(self):
        with self.assertRaises(AttributeError):
            Growth(SPAN).heights = ()


class History(Case):
    def test_undo_and_redo(self):
        growth = Growth(SPAN)
        growth.put(ROW)
        growth.lift(0, 3)
        self.same([growth.undo(), growth.history(), growth.deeds(), growth.span().lifts],
                  [None, (1, 1), [("put", ROW)], (0, 0)])
        self.same([growth.redo(), growth.history(), growth.span().lifts], [None, (2, 0), (3, 0)])
        growth.undo()
        growth.undo()
        self.same(growth.history(), (0, 2))
        # another deed: nothing can be done again
        growth.lift(1)
        self.same([growth.history(), growth.deeds()], [(1, 0), [("lift", 1, 1)]])
        self.same(state_of(growth.span()), state_of(lift_place(SPAN, 1)))
        self.raises(NothingLeft, {}, growth.redo)

    def test_nothing_left(self):
        growth = Growth(SPAN)
        self.raises(NothingLeft, {}, growth.undo)
        self.raises(NothingLeft, {}, growth.redo)
        growth.put(ROW)
        self.raises(NothingLeft, {}, growth.redo)
        growth.undo()
        before = state(growth)
        self.raises(NothingLeft, {}, growth.undo)
        self.same(state(growth), before)
        growth.redo()
        self.same(growth.history(), (1, 0))

    def test_60_deeds_and_one_more(self):
        growth = Growth(SPAN)
        for at in range(60):
            self.same(growth.history(), (at, 0))
            growth.lift(0, 1 if at % 2 else -1)
        before = state(growth)
        for call, given in ((growth.put, (ROW,)), (growth.put, (((), ()),)), (growth.cut, (CONDITION,)),
                            (growth.lift, (0,)), (growth.lift, (0, 0))):
            self.raises(Full, {"most": 60}, call, *given)
        # its own errors come first
        self.raises(InvalidRow, {"at": 0}, growth.put, None)
        self.raises(InvalidCondition, {"at": 0}, growth.cut, None)
        self.raises(InvalidNumber, {"value": None}, growth.lift, None, "x")
        self.raises(InvalidNumber, {"value": "x"}, growth.lift, 0, "x")
        self.same(state(growth), before)
        growth.undo()
        self.same([growth.put(ROW), growth.history()], [True, (60, 0)])
        for _ in range(60):
            growth.undo()
        self.same([growth.history(), state_of(growth.span())], [(0, 60), state_of(SPAN)])
        growth.put(ROW)
        self.same(growth.history(), (1, 0))

    def test_refused_deeds_leave_what_can_be_done_again(self):
        growth = Growth(SPAN)
        growth.put(ROW)
        growth.undo()
        before = state(growth)
        self.raises(InvalidRow, {"at": 0}, growth.put, (1,))
        self.raises(InvalidCondition, {"at": 0}, growth.cut, ())
        self.raises(InvalidNumber, {"value": 2}, growth.lift, 2)
        self.raises(InvalidNumber, {"value": 21}, growth.lift, 0, 21)
        self.same([state(growth), growth.history()], [before, (0, 1)])
        growth.redo()

    def test_wrong_values(self):
        growth = Growth(SPAN)
        for value in [*WRONG, (), 0, ((1,),), ((1,), (1,), (1,)), ((1,), (5,)), ((1,), (1, 0)), [(1,), (1,)], ((1,), (True,))]:
            self.raises(InvalidRow, {"at": 0}, growth.put, value)
        for value in [*WRONG, (), 0, (5, ROW, 1), (0, ((1,),), 1), (0, ROW, 0), (0, ROW, 41), [0, ROW, 1], (0, ROW)]:
            self.raises(InvalidCondition, {"at": 0}, growth.cut, value)
        for value in [*WRONG, (), -1, 2]:
            self.raises(InvalidNumber, {"value": value}, growth.lift, value, None)
        for value in [*WRONG, (), -21, 21]:
            self.raises(InvalidNumber, {"value": value}, growth.lift, 1, value)
        self.same(state(growth), state(Growth(SPAN)))


class Twins(Case):
    def test_a_twin_of_a_new_growth(self):
        growth = Growth(SPAN)
        twin = growth.twin()
        self.same([state(twin), state_of(twin.first())], [state(growth), state_of(SPAN)])
        twin.put(ROW)
        self.same([growth.history(), twin.history()], [(0, 0), (1, 0)])

    def test_twins_are_independent(self):
        growth = Growth(SPAN)
        growth.put(ROW)
        growth.lift(0, 2)
        growth.undo()
        twin = growth.twin()
        self.same([state(twin), state_of(twin.first())], [state(growth), state_of(SPAN)])
        before = state(growth)
        twin.redo()
        self.same([state(growth), twin.history()], [before, (2, 0)])
        twin.undo()
        twin.cut(CONDITION)
        twin.undo()
        twin.undo()
        self.same([state(growth), twin.history()], [before, (0, 2)])
        growth.undo()
        growth.put(((2,), ()))
        self.same([twin.deeds(), twin.history()], [[], (0, 2)])
        twin.redo()
        twin.redo()
        self.same(twin.deeds(), [("put", ROW), ("cut", CONDITION)])

    def test_repr(self):
        growth = Growth(all_rows(97, (0,)))
        growth.lift(0, 0)
        self.same([repr(growth), repr(growth.twin())], ["Growth(p 97, 1 deeds)"] * 2)
        growth.lift(0, 0)
        self.same(repr(growth), "Growth(p 97, 2 deeds)")
        growth.undo()
        self.same(repr(growth), "Growth(p 97, 1 deeds)")


class Played(Case):
    def test_drawn_deeds(self):
        draw = drawing(232)
        for _ in range(15):
            span = drawn_span(draw)
            growth = Growth(span)
            deeds = []
            for _ in range(draw.randrange(6)):
                deeds.append(drawn_deed(draw, growth.span()))
                growth = played(span, deeds)
            self.same([state(played(span=span, deeds=tuple(deeds))), growth.deeds()], [state(growth), deeds])
            again = played(growth.first(), growth.deeds())
            self.same([again.span() == growth.span(), again.history()], [True, (len(deeds), 0)])

    def test_no_deeds_and_the_list_is_not_changed(self):
        self.same(state(played(SPAN, ())), state(Growth(SPAN)))
        deeds = [("put", ROW)]
        growth = played(SPAN, deeds)
        growth.undo()
        growth.put(ROW)
        self.same(deeds, [("put", ROW)])

    def test_no_list(self):
        for value in (None, True, 0, "", "put", SPAN):
            self.raises(InvalidDeed, {"at": -1}, played, SPAN, value)

    def test_wrong_deeds_are_found_ahead_of_the_first_deed(self):
        for value in [*WRONG, (), 0, "put", ["put", ROW], ("put",), ("put", ROW, 1), ("cut",), ("cut", CONDITION, 1),
                      ("lift", 0), ("lift",), ("lift", 0, 1, 1), ("undo",), ("undo", 1), ("Put", ROW), (None, ROW),
                      (("put",), ROW), (["put"], ROW), (SPAN, ROW), (True, ROW), ("", ROW)]:
            self.raises(InvalidDeed, {"at": 2}, played, SPAN, [("put", None), ("lift", 9, 9), value, None])
            self.raises(InvalidDeed, {"at": 0}, played, SPAN, (value,))

    def test_then_what_the_methods_raise(self):
        for value in [*WRONG, ()]:
            self.raises(InvalidRow, {"at": 0}, played, SPAN, [("lift", 0, 1), ("put", value), ("cut", None)])
            self.raises(InvalidCondition, {"at": 0}, played, SPAN, [("cut", value), ("put", None)])
            self.raises(InvalidNumber, {"value": value}, played, SPAN, [("lift", value, None)])
            self.raises(InvalidNumber, {"value": value}, played, SPAN, [("lift", 1, value)])
        self.same(played(SPAN, [("lift", 0, 1)] * 60).history(), (60, 0))
        self.raises(Full, {"most": 60}, played, SPAN, [("lift", 0, 1)] * 61)
        self.raises(InvalidNumber, {"value": 2}, played, SPAN, [("lift", 0, 1)] * 60 + [("lift", 2, 1)])


if __name__ == "__main__":
    unittest.main()
