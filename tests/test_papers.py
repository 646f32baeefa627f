import itertools
import unittest

from cases import WRONG, Case, bent, drawing, drawn_row, full_span, row_in, thin_span
from freetops.bench import Bench
from freetops.curves import Curve, products_with
from freetops.errors import (InvalidNumber, InvalidPoint, InvalidQuestion, InvalidRow, LowRank, UnknownKept, UnknownName, WrongKind)
from freetops.forms import add, form_of, is_form, multiply
from freetops.near import is_near_paper
from freetops.rows import add_rows, is_row, product_of, row_times, zero_row
from freetops.spans import Span
from freetops.whole import is_whole_paper
from test_bench import CHANGES, full_bench, state
from test_curves import drawn_curve
from test_letters import drawn_room, is_rule_by_definition
from test_questions import QUESTIONS, question_by_definition

# questions about the holdings of full_bench, and all of their kinds
ASKED = [("member", "a", ((1,), ())), ("member", "a", ((0, 1), (3,))), ("member", "a", ((), ())), ("near", "a", ((1,), ()), -1),
         ("near", "a", ((1,), ()), 0), ("whole", "a"), ("order", "b", 0), ("visit", "d", (1, 1, 2)), ("visit", "d", (0, 0, 1)),
         ("visit", "d", (0, 1, 0))]


def combination(span, forms, rest):
    row = rest
    for form, head in zip(forms, span.key()):
        row = add_rows(span.prime, row, row_times(span.prime, head, form))
    return row


def are_forms(prime, value, many):
    return isinstance(value, tuple) and len(value) == many and all(is_form(prime, form) for form in value)


def is_low_at_leads(span, row):
    return all(len(row[lead]) < len(head[lead]) for head, lead in zip(span.key(), span.leads()))


def right_by_definition(holding, question, value):
    """As the document has it, multiplied out."""
    word = question[0]
    if word == "near":
        return is_near_paper(holding, question[2], value, within=question[3])
    if word == "whole":
        return is_whole_paper(holding, value)
    if not isinstance(value, tuple) or not value or not isinstance(value[0], str):
        return False
    kind, *more = value
    p = holding.prime
    if word == "member" and kind == "in" and len(more) == 1:
        zero = zero_row(holding.places)
        return are_forms(p, more[0], holding.rank) and combination(holding, more[0], zero) == question[2]
    if word == "member" and kind == "out" and len(more) == 2:
        if not are_forms(p, more[0], holding.rank) or not is_row(p, holding.places, more[1]):
            return False
        if more[1] == zero_row(holding.places) or not is_low_at_leads(holding, more[1]):
            return False
        return combination(holding, more[0], more[1]) == question[2]
    if word == "order" and kind == "rule" and len(more) == 1:
        rule = more[0]
        if not isinstance(rule, tuple) or not all(type(item) is int and 0 <= item < p for item in rule):
            return False
        return len(rule) == question[2] + 1 and rule[0] == 1 and is_rule_by_definition(holding, rule)
    if word == "order" and kind == "none" and len(more) == 1:
        span = holding.span()
        wanted = tuple(row for row, height in zip(span.key(), span.heights) if height <= question[2])
        return repr(more[0]) == repr(wanted) and not any(row[0] and row[0][0] for row in wanted)
    if word == "visit" and kind == "off" and len(more) == 1:
        lines = holding.lines()
        if not are_forms(p, more[0], lines.rank):
            return False
        constants = tuple(form_of(p, [residue]) for residue in question[2])
        total = ()
        for form, row in zip(more[0], lines.key()):
            total = add(p, total, multiply(p, form, product_of(p, row, constants)))
        return total == (1,)
    if word == "visit" and kind == "form" and len(more) == 1:
        return is_form(p, more[0]) and more[0] == holding.meeting_form(question[2]) and len(more[0]) > 1
    return False


def bench_with(prime, deed, *more):
    bench = Bench(prime)
    bench.do(deed, *more)
    return bench


def deeds_of(name, holding):
    if isinstance(holding, Span):
        return [("span", name, holding.lifts, holding.key())]
    if isinstance(holding, Curve):
        return [("curve", name, holding.forms)]
    return [("letters", name, holding.width)] + [("column", name, column) for column in holding.columns()]


class Papers(Case):
    def right(self, bench, question):
        """The paper, when all that can be seen of it is right."""
        before = state(bench)
        paper = bench.paper(question=question)
        self.same(bench.is_right(question=question, value=paper), True)
        self.assertTrue(right_by_definition(bench.holding(question[1]), question, paper))
        self.same([bench.twin().paper(question), state(bench)], [paper, before])
        return paper

    def test_small_papers(self):
        bench = full_bench()
        self.same([self.right(bench, question) for question in ASKED],
                  [("out", ((), ()), ((1,), ())), ("in", ((1,), ())), ("in", ((), ())), bench.paper(ASKED[3]),
                   ("row", ((), ()), ((1,), ())), bench.paper(ASKED[5]), ("rule", (1,)), ("form", (4, 1)), bench.paper(ASKED[8]),
                   bench.paper(ASKED[9])])
        self.same([bench.paper(ASKED[at])[0] for at in (3, 5, 8, 9)], ["reading", "open", "off", "off"])

    def test_member_papers(self):
        draw = drawing(671)
        seen = {"in": 0, "out": 0}
        for _ in range(60):
            span = thin_span(draw)
            bench = bench_with(span.prime, *deeds_of("s", span))
            for row in (row_in(draw, span), drawn_row(draw, span.prime, span.places, 5), zero_row(span.places)):
                paper = self.right(bench, ("member", "s", row))
                self.same(paper[0], "in" if row in span else "out")
                seen[paper[0]] += 1
        self.assertGreater(min(seen.values()), 40)

    def test_near_and_whole_papers(self):
        draw = drawing(672)
        seen = {"row": 0, "reading": 0, "whole": 0, "open": 0, "low": 0}
        for _ in range(60):
            span = thin_span(draw)
            bench = bench_with(span.prime, *deeds_of("s", span))
            seen[self.right(bench, ("whole", "s"))[0]] += 1
            row = drawn_row(draw, span.prime, span.places, 4)
            for within in (-200, -20, 0, 200):
                question = ("near", "s", row, within)
                if span.size is None:
                    for call in (bench.paper, bench.keep):
                        self.raises(LowRank, {"rank": span.rank}, call, question)
                    self.raises(LowRank, {"rank": span.rank}, bench.is_right, question, None)
                    seen["low"] += 1
                else:
                    seen[self.right(bench, question)[0]] += 1
        self.assertGreater(min(seen.values()), 10)

    def test_order_papers(self):
        draw = drawing(673)
        seen = {"rule": 0, "none": 0}
        for _ in range(40):
            room = drawn_room(draw, most=8)
            bench = bench_with(room.prime, *deeds_of("r", room))
            for order in range(len(room) + 1):
                paper = self.right(bench, ("order", "r", order))
                self.same(paper[0], "none" if order < room.least_order else "rule")
                seen[paper[0]] += 1
        self.assertGreater(min(seen.values()), 60)
        # any rule of the order is right
        bench = bench_with(3, ("letters", "r", 1), ("column", "r", (0,)), ("column", "r", (1,)))
        for tail in itertools.product(range(3), repeat=2):
            self.same(bench.is_right(("order", "r", 2), ("rule", (1, *tail))), True)
            self.same(bench.is_right(("order", "r", 1), ("rule", (1, *tail))), False)

    def test_visit_papers(self):
        draw = drawing(674)
        seen = {"off": 0, "form": 0}
        for _ in range(80):
            curve = drawn_curve(draw)
            bench = bench_with(curve.prime, *deeds_of("c", curve))
            point = tuple(draw.randrange(curve.prime) for _ in curve.forms)
            for point in (point, curve.point_at(draw.choice([None, 0, 1]))):
                if any(point):
                    paper = self.right(bench, ("visit", "c", point))
                    meeting = curve.meeting_form(point)
                    self.same(paper[0], "off" if meeting == (1,) else "form")
                    seen[paper[0]] += 1
        self.assertGreater(min(seen.values()), 40)

    def test_any_right_paper_counts(self):
        draw = drawing(675)
        seen = {"reading": 0, "off": 0}
        for _ in range(40):
            curve = drawn_curve(draw, (3, 5, 7), 3)
            span = full_span(draw, (curve.prime,), places=2)
            bench = bench_with(curve.prime, *deeds_of("c", curve), *deeds_of("s", span))
            question = ("near", "s", drawn_row(draw, span.prime, 2, 4), -3)
            word, form, u = bench.paper(question)
            if word == "reading":
                other = (word, form, row_times(span.prime, u, (2,)))
                self.same([bench.is_right(question, other), other == bench.paper(question)], [True, False])
                seen[word] += 1
            question = ("visit", "c", (1, draw.randrange(3), draw.randrange(3)))
            word, one = bench.paper(question)
            if word == "off":
                # with multipliers that make the zero form of the products added to them
                products = products_with(curve, question[2])
                zero = (products[1], tuple(-number % curve.prime for number in products[0]))
                other = tuple(add(curve.prime, a, b) for a, b in zip(one, zero))
                self.same([bench.is_right(question, (word, other)), other == one], [True, False])
                self.same(bench.is_right(question, (word, zero)), False)
                seen[word] += 1
        self.assertGreater(min(seen.values()), 10)

    def test_bent_papers(self):
        bench = full_bench()
        bench.do(("column", "b", (0,)), ("column", "b", (2,)), ("span", "w", (0, 3), [((1,), ()), ((), (1,))]), ("span", "n", (0, 1), ()))
        asked = ASKED + [("order", "b", 1), ("order", "b", 2), ("whole", "w"), ("member", "n", ((), ())), ("member", "n", ((1,), ())),
                         ("near", "w", ((1,), ()), -5), ("whole", "n")]
        seen = {True: 0, False: 0}
        for question in asked:
            holding = bench.holding(question[1])
            for value in bent(bench.paper(question)):
                found = bench.is_right(question, value)
                self.same(found, right_by_definition(holding, question, value))
                seen[found] += 1
            for other in asked:
                value = bench.paper(other)
                self.same(bench.is_right(question, value), right_by_definition(holding, question, value))
        self.assertGreater(seen[False], 800)

    def test_wrong_papers(self):
        bench = full_bench()
        for question in ASKED:
            for value in [*WRONG, (), 0, ("in",), ("out",), ("in", ()), ("out", (), ()), ("rule", ()), ("none", ()), ("off", ()),
                          ("form", ()), ("form", (1,)), ("row", (), ()), ("whole", []), ("none", None), ("rule", None), ("off", None),
                          ("in", None), ("out", None, None), ("form", None), ("rule", 1), ("rule", [1]), ["rule", (1,)], ("in", [(), ()])]:
                self.same(bench.is_right(question, value), False)
        # a table may stand as a list or as a tuple
        bench.do(("span", "w", (0, 3), [((1,), ()), ((), (1,))]))
        word, table = bench.paper(("whole", "w"))
        self.same([isinstance(table, list), bench.is_right(("whole", "w"), (word, tuple(table)))], [True, True])
        table.append(None)
        self.same(len(bench.paper(("whole", "w"))[1]), 2)


class WrongQuestions(Case):
    def refused(self, error, worth, question):
        bench = full_bench()
        bench.do(*CHANGES)
        bench.keep(("whole", "a"))
        before = state(bench)
        self.raises(error, worth, bench.paper, question)
        self.raises(error, worth, bench.keep, question)
        for value in (None, ("in", ()), ("open", (0, 1), ((1,), ())), ("off", ((1,), (1,))), ("rule", (1,))):
            self.raises(error, worth, bench.is_right, question, value)
        self.same(state(bench), before)

    def test_values_that_are_no_questions(self):
        for value in [*WRONG, (), ("member",), ("whole", "A"), ("whole", None), ["whole", "a"], ("near", "a", ((1,), ()), 201),
                      ("member", "a", [(1,), ()]), ("order", "b", True), ("visit", "d", (0, 0, 0)), ("sized", "a"), ("whole", "a", 1)]:
            self.refused(InvalidQuestion, {}, value)

    def test_bent_questions(self):
        bench = full_bench()
        seen = 0
        for question in QUESTIONS + ASKED:
            for value in bent(question):
                if not question_by_definition(value):
                    self.raises(InvalidQuestion, {}, bench.paper, value)
                    seen += 1
        self.assertGreater(seen, 1000)

    def test_names_and_kinds(self):
        kinds = {"member": ("a", ((1,),)), "near": ("a", ((1,),), 0), "whole": ("a",), "order": ("b", 99), "visit": ("d", (1,))}
        for word, (own, *more) in kinds.items():
            self.refused(UnknownName, {"name": "e"}, (word, "e", *more))
            for name in "abcd":
                if name != own:
                    self.refused(WrongKind, {"name": name}, (word, name, *more))

    def test_what_does_not_fit(self):
        for row in (((1,),), ((1,), (1,), (1,))):
            self.refused(InvalidRow, {"at": 0}, ("member", "a", row))
            self.refused(InvalidRow, {"at": 0}, ("near", "a", row, 0))
        for order in (2, 99, 10 ** 5000):
            self.refused(InvalidNumber, {"value": order}, ("order", "b", order))
        for point in ((1,), (1, 1), (1, 1, 1, 1)):
            self.refused(InvalidPoint, {"at": 0}, ("visit", "d", point))

    def test_near_about_a_span_that_is_not_full(self):
        bench = bench_with(5, ("span", "n", (0, 1), [((1,), ())]))
        self.raises(LowRank, {"rank": 1}, bench.paper, ("near", "n", ((1,), ()), 5))
        self.raises(InvalidRow, {"at": 0}, bench.paper, ("near", "n", ((1,),), 5))
        self.same(bench.paper(("member", "n", ((3,), ()))), ("in", ((3,),)))


class Kept(Case):
    def test_kept_papers(self):
        bench = full_bench()
        papers = []
        for at, question in enumerate(ASKED):
            self.same(bench.keep(question=question), at)
            papers.append(bench.paper(question))
        for at, question in enumerate(ASKED):
            self.same([bench.kept(number=at), bench.is_good(number=at)], [(question, papers[at]), True])
        before = state(bench)
        for value in [*WRONG, -1, len(ASKED), 10 ** 5000, (0,)]:
            self.raises(UnknownKept, {"at": value}, bench.kept, value)
            self.raises(UnknownKept, {"at": value}, bench.is_good, value)
        self.raises(UnknownKept, {"at": 0}, Bench(5).kept, 0)
        self.same(state(bench), before)

    def test_lists_in_kept_papers_are_new(self):
        bench = bench_with(5, ("span", "w", (0, 3), [((1,), ()), ((), (1,))]))
        bench.keep(("whole", "w"))
        wanted = ("whole", [((1,), ()), ((), (1,))])
        question, paper = bench.kept(0)
        self.same(paper, wanted)
        paper[1].clear()
        self.same([bench.kept(0)[1], bench.is_good(0), bench.twin().kept(0)[1]], [wanted, True, wanted])

    def test_behind_undo_and_drop(self):
        bench = full_bench()
        bench.do(("put", "a", ((1,), ())))
        question = ("member", "a", ((1,), ()))
        number = bench.keep(question)
        paper = bench.paper(question)
        self.same([paper[0], bench.is_good(number)], ["in", True])
        bench.undo()
        self.same([bench.kept(number), bench.is_good(number), bench.paper(question)[0]], [(question, paper), False, "out"])
        bench.redo()
        self.same(bench.is_good(number), True)
        bench.do(("drop", "a"))
        self.same([bench.is_good(number), bench.kept(number)], [False, (question, paper)])
        for deed in (("letters", "a", 1), ("span", "a", (0,), [((1,),)]), ("span", "a", (0, 0), [((1,), (1,))])):
            bench.do(deed)
            self.same(bench.is_good(number), False)
            bench.do(("drop", "a"))
        # another holding with this name, for which the paper is right
        key = Span(5, (0, 0), [((0, 1), (3,)), ((2,), (0, 1)), ((1,), ())]).key()
        bench.do(("span", "a", (0, 0), key))
        self.same(bench.is_good(number), True)

    def test_papers_for_which_the_question_does_not_fit_any_more(self):
        bench = full_bench()
        bench.do(("column", "b", (0,)))
        numbers = [bench.keep(question) for question in (("order", "b", 1), ("near", "a", ((1,), ()), 0), ("visit", "d", (1, 1, 2)))]
        self.same([bench.is_good(number) for number in numbers], [True] * 3)
        bench.undo()
        self.same([bench.is_good(number) for number in numbers], [False, True, True])
        bench.do(("drop", "a"), ("span", "a", (0, 0), [((1,), (1,))]), ("drop", "d"), ("curve", "d", ((1,), (0, 1))))
        self.same([bench.is_good(number) for number in numbers], [False] * 3)

    def test_a_rule_stays_right_as_long_as_letters_follow_it(self):
        bench = bench_with(5, ("letters", "b", 1), *[("column", "b", (letter,)) for letter in (1, 1, 2, 3)])
        number = bench.keep(("order", "b", 2))
        self.same(bench.kept(number), (("order", "b", 2), ("rule", (1, 4, 4))))
        bench.do(("column", "b", (0,)))
        self.same(bench.is_good(number), True)
        bench.do(("column", "b", (0,)))
        self.same(bench.is_good(number), False)
        none = bench.keep(("order", "b", 2))
        self.same([bench.kept(none)[1][0], bench.is_good(none)], ["none", True])
        bench.undo()
        self.same([bench.is_good(number), bench.is_good(none)], [True, False])

    def test_numbers_go_on_behind_undo(self):
        bench = full_bench()
        self.same(bench.keep(("whole", "a")), 0)
        bench.undo()
        bench.do(("span", "a", (0,), []))
        self.same([bench.keep(("whole", "a")), bench.kept(1)], [1, (("whole", "a"), ("whole", [()]))])


if __name__ == "__main__":
    unittest.main()
