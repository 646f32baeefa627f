"""Every example of the document, as it stands there."""

import unittest

from cases import Case
from freetops.across import across
from freetops.answers import answers, faults_of
from freetops.bench import Bench
from freetops.conditions import cut, steps
from freetops.curves import Curve
from freetops.errors import InvalidText, NotPrime
from freetops.forms import is_form, multiply
from freetops.formtexts import read_form, read_row, write_row
from freetops.gluings import Gluing
from freetops.letters import LetterRoom
from freetops.lists import forms_meeting, met_by
from freetops.near import near_paper
from freetops.opposites import least_form, opposite
from freetops.points import PointRoom
from freetops.reach import reach
from freetops.rules import far_column, rules, sure_column
from freetops.spans import Span, all_rows
from freetops.twosided import is_two_sided, multiply_two
from freetops.vanishing import vanishing_span
from freetops.whole import closure, index_form, is_whole

PAIRS = [(0, 1), (1, 3), (2, 5), (3, 0), (4, 5), (5, 4), (6, 3)]


class Examples(Case):
    def test_spans(self):
        span = Span(5, (0, 0), [((1, 0, 1), (0, 1)), ((0, 0, 0, 1), (2, 0, 1))])
        self.same([span.key(), span.heights, span.size, span.rest_of(((0, 0, 0, 0, 1), ())), span.rest_of(((0, 1), (0, 1)))],
                  [[((0, 1), (3,)), ((2,), (0, 1))], (1, 1), 2, ((1,), ()), ((3,), (2,))])

    def test_errors(self):
        self.raises(NotPrime, {"value": 6}, Span, 6, (0,))
        self.raises(InvalidText, {"line": 0, "why": "form"}, read_form, 5, "1 0")

    def test_conditions(self):
        span = all_rows(5, (0, 0))
        condition = (2, ((1,), (1,)), 1)
        self.same([steps(span, condition), cut(span, condition).key(), steps(cut(span, condition), condition)],
                  [[0], [((4,), (1,)), ((3, 1), ())], [None]])

    def test_whole_and_across(self):
        span = Span(5, (0, 0), [((0, 1), (0, 1))])
        self.same([is_whole(span), closure(span).key(), index_form(span), across(span).key()],
                  [False, [((1,), (1,))], (0, 1), [((4,), (1,))]])

    def test_near(self):
        span = Span(5, (0, 0), [((0, 1), (3,)), ((2,), (0, 1))])
        self.same([least_form(span), opposite(span).key(), reach(span), near_paper(span, ((0, 0, 0, 0, 1), ()), within=0)],
                  [(4, 0, 1), [((0, 1), (3,)), ((2,), (0, 1))], 0, ("row", ((4, 0, 0, 0, 1), ()), ((1,), ()))])

    def test_letters(self):
        room = LetterRoom(5, 1, [(1,), (1,), (2,), (3,), (0,), (3,), (3,), (1,)])
        self.same([room.least_order, room.heights, rules(room, order=2), sure_column(room), far_column(room, 10 ** 30)],
                  [2, (2, 7), [(1, 4, 4)], (4,), (1,)])

    def test_points(self):
        room = PointRoom(7, 2, 2, [(0, (1, 3)), (1, (4, 2)), (2, (5, 5)), (3, (0, 6)), (4, (4, 1)), (5, (4, 1)), (6, (2, 3))])
        self.same([room.heights, answers(room, faults=2), answers(room, faults=3), faults_of(room, ((1, 2), (3, 1)))],
                  [(4, 5, 6), [], [((1, 2), (3, 1))], [1, 4, 6]])

    def test_lists(self):
        self.same([forms_meeting(7, PAIRS, bound=2, met=3), met_by(7, PAIRS, (2, 6))], [[(1, 2), (2, 6)], [4, 5, 6]])

    def test_curves(self):
        curve = Curve(7, [(6, 0, 1), (0, 6, 0, 1), (1,)])
        self.same([curve.lines().heights, curve.visits((0, 0, 1)), curve.visits((0, 1, 0)), curve.meeting_form((1, 1, 1))],
                  [(1, 2), [(1, 1), (6, 1)], [(None, 1)], (1,)])

    def test_gluings(self):
        gluing = Gluing(5, [((1, (1,)), (0, (1,))), ((0, ()), (-1, (1,)))])
        self.same([gluing.heights, (gluing * gluing).heights, gluing.moved(2).heights, gluing.about().heights],
                  [(-1, 1), (-2, 0, 0, 2), (1, 3), (-1, 1)])

    def test_benches(self):
        bench = Bench(5)
        done = bench.do(("span", "a", (0, 0), (((0, 1), (3,)), ((2,), (0, 1)))), ("letters", "b", 1), ("column", "b", (0,)))
        self.same([done, bench("heights a"), bench("rest a 0 0 0 0 1, 0"), bench("order b"), bench("order a"), bench.history()],
                  [None, "1 1", "1, 0", "0", "error WrongKind", (1, 0)])


class ExamplesWithinPoints(Case):
    def test_forms_and_texts(self):
        self.same([is_form(5, (4, 0, 1)), write_row(((0, 1), (3,))), read_row(5, "0 1, 3")], [True, "0 1, 3", ((0, 1), (3,))])

    def test_spans(self):
        rows = [((1, 0, 1), (0, 1)), ((0, 0, 0, 1), (2, 0, 1))]
        other = Span(5, (0, 2), rows)
        self.same([other.key(), other.heights], [[((4, 0, 1), ()), ((0, 2), (1,))], (2, 2)])

    def test_letters(self):
        room = LetterRoom(5, 1, [(1,), (1,), (2,), (3,), (0,), (3,), (3,), (1,)])
        self.same([heights for _, heights in room.walk()],
                  [(0, 1), (1, 1), (1, 2), (2, 2), (2, 3), (2, 4), (2, 5), (2, 6), (2, 7)])

    def test_points(self):
        room = PointRoom(7, 1, 2, [(at, (letter,)) for at, letter in enumerate((1, 3, 5, 0, 2, 6, 6))])
        self.same([room.heights, answers(room, faults=2), faults_of(room, ((1, 2),))], [(2, 6), [((1, 2),)], [5]])

    def test_lists(self):
        span = vanishing_span(7, PAIRS, bound=2, times=1, most=2)
        self.same([span.heights, span.key()[0]], [(2, 3, 5), ((2, 3, 5), (4, 6), (1,))])
        # (Y - 1 - 2 x)(Y - 2 - 6 x)
        self.same(multiply(7, (6, 5), (5, 1)), (2, 3, 5))

    def test_curves(self):
        curve = Curve(7, [(6, 0, 1), (0, 6, 0, 1), (1,)])
        self.same([curve.degree, curve.point_at(1), curve.point_at(6), curve.point_at(2), curve.point_at(None), curve.visits((1, 1, 1))],
                  [3, (0, 0, 1), (0, 0, 1), (3, 6, 1), (0, 1, 0), []])

    def test_two_sided_forms(self):
        self.same([is_two_sided(5, (-1, (1,))), multiply_two(5, (-1, (1,)), (1, (1,)))], [True, (0, (1,))])


if __name__ == "__main__":
    unittest.main()
