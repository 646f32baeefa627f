import unittest

from cases import WRONG, Case, bent, drawing, drawn_form, forms_below, row_in, rows_below, state_of, thin_span
from freetops.across import across
from freetops.division import divides
from freetops.forms import degree_of, is_form
from freetops.rows import is_row, row_times
from freetops.spans import Span, all_rows
from freetops.tables import determinant, multiply_tables, unit_table
from freetops.whole import closure, index_form, is_whole, is_whole_paper, whole_paper

LINE = Span(5, (0, 0), [((0, 1), (0, 1))])
SPAN = Span(5, (0, 0), [((0, 1), (3,)), ((2,), (0, 1))])
NONE = Span(5, (0, 3))


def paper_by_definition(span, value):
    """Whether a value is a whole paper, told in the words of the document."""
    if type(value) is not tuple or not value or type(value[0]) is not str:
        return False
    if value[0] == "whole" and len(value) == 2:
        table = value[1]
        if type(table) not in (list, tuple) or len(table) != span.places:
            return False
        for row in table:
            if type(row) is not tuple or len(row) != span.rank or not all(is_form(span.prime, form) for form in row):
                return False
        return span.rank == 0 or multiply_tables(span.prime, span.key(), list(table)) == unit_table(span.rank)
    if value[0] == "open" and len(value) == 3:
        _, form, row = value
        if not is_form(span.prime, form) or len(form) < 2 or not is_row(span.prime, span.places, row):
            return False
        return row not in span and row_times(span.prime, row, form) in span
    return False


class Closures(Case):
    def test_example(self):
        self.same([is_whole(LINE), closure(LINE).key(), index_form(LINE), across(LINE).key()],
                  [False, [((1,), (1,))], (0, 1), [((4,), (1,))]])

    def test_drawn_closures(self):
        draw = drawing(251)
        for _ in range(80):
            span = thin_span(draw)
            found = closure(span)
            self.same([found.prime, found.lifts, found.rank], [span.prime, span.lifts, span.rank])
            self.same([span.is_within(found), is_whole(found)], [True, True])
            self.same(state_of(closure(found)), state_of(found))
            index = index_form(span)
            # so each row of the closure has a form with which it is in the span
            for row in found.key():
                self.assertIn(row_times(span.prime, row, index), span)
            self.same(is_whole(span), span == found)

    def test_closures_by_their_definition(self):
        draw = drawing(252)
        for _ in range(15):
            span = thin_span(draw, (2,), 2)
            if span.places > 2 or span.rank == 0:
                continue
            found = closure(span)
            forms = [form for form in forms_below(2, 5) if form]
            for row in rows_below(2, span.places, 2):
                self.same(row in found, any(row_times(2, row, form) in span for form in forms) or row in found and
                          row_times(2, row, index_form(span)) in span)

    def test_a_span_times_a_form(self):
        draw = drawing(253)
        for _ in range(40):
            span = closure(thin_span(draw))
            form = drawn_form(draw, span.prime, 3) or (1,)
            below = Span(span.prime, span.lifts, [row_times(span.prime, row, form) for row in span.key()])
            self.same(state_of(closure(below)), state_of(span))
            self.same(is_whole(below), len(form) == 1 or span.rank == 0)

    def test_index_forms(self):
        draw = drawing(254)
        for _ in range(80):
            span = thin_span(draw)
            around = closure(span)
            index = index_form(span)
            table = [around.way_of(row) for row in span.key()]
            self.assertEqual(index[-1], 1)
            self.assertTrue(divides(span.prime, index, determinant(span.prime, table)))
            self.same(degree_of(index), sum(span.heights) - sum(around.heights))
            self.same(index == (1,), is_whole(span))

    def test_edges(self):
        self.same([is_whole(NONE), closure(NONE).key(), closure(NONE).lifts, index_form(NONE)], [True, [], (0, 3), (1,)])
        whole = all_rows(97, (3, -1))
        self.same([is_whole(whole), index_form(span=whole), state_of(closure(span=whole))], [True, (1,), state_of(whole)])
        # a full span is whole only if all rows are in it
        self.same([is_whole(span=SPAN), closure(SPAN).key(), index_form(SPAN)], [False, unit_table(2), (4, 0, 1)])
        self.same([is_whole(Span(5, (0,), [((0, 1),)])), index_form(Span(5, (0,), [((0, 3),)]))], [False, (0, 1)])
        self.same(index_form(Span(5, (0, 0), [((0, 0, 2), ()), ((), (1, 3))])), (0, 0, 2, 1))
        self.same(is_whole(Span(5, (0, 9), [((0, 1), (1,))])), True)


class Papers(Case):
    def test_drawn_papers_multiply_out(self):
        draw = drawing(255)
        seen = {"whole": 0, "open": 0}
        for at in range(80):
            span = closure(thin_span(draw)) if at % 3 == 0 else thin_span(draw)
            paper = whole_paper(span)
            seen[paper[0]] += 1
            self.assertTrue(paper_by_definition(span, paper))
            self.same([is_whole_paper(span, paper), paper[0]], [True, "whole" if is_whole(span) else "open"])
            if paper[0] == "whole":
                self.assertIs(type(paper[1]), list)
                self.same(is_whole_paper(span, ("whole", tuple(paper[1]))), True)
            self.same(whole_paper(Span(span.prime, span.lifts, span.key())), paper)
        self.assertGreater(min(seen.values()), 15)

    def test_bent_papers(self):
        draw = drawing(256)
        many = 0
        spans = [LINE, SPAN, NONE, all_rows(2, (0,)), Span(5, (0, 9), [((0, 1), (1,))])]
        spans = spans + [thin_span(draw, (2, 3, 5), 2) for _ in range(10)]
        for span in spans:
            for value in bent(whole_paper(span)):
                found = is_whole_paper(span, value)
                self.same(found, paper_by_definition(span, value))
                many += not found
        self.assertGreater(many, 400)

    def test_any_right_paper_counts(self):
        span = Span(5, (0, 0), [((1,), ())])
        for value in [("whole", [((1,),), ((),)]), ("whole", [((1,),), ((3, 0, 4),)]), ("whole", (((1,),), ((2,),)))]:
            self.same(is_whole_paper(span, value), True)
        for value in [("open", (0, 1), ((1,), (1,))), ("open", (0, 0, 1), ((2,), (2,))), ("open", (0, 3), ((1, 1), (1, 1)))]:
            self.same(is_whole_paper(span=LINE, value=value), True)
        for value in [("open", (1,), ((1,), (1,))), ("open", (), ((1,), (1,))), ("open", (1, 1), ((1,), (1,))),
                      ("open", (0, 1), ((0, 1), (0, 1))), ("open", (0, 1), ((1,), (2,))), ("open", (0, True), ((1,), (1,))),
                      ("open", (0, 1), ((1,),)), ("open", (0, 1), [(1,), (1,)]), ["open", (0, 1), ((1,), (1,))],
                      ("whole", (0, 1), ((1,), (1,))), ("open", (0, 1), ((True,), (1,)))]:
            self.same(is_whole_paper(LINE, value), False)

    def test_spans_of_no_rows_and_of_all_rows(self):
        self.same(whole_paper(NONE), ("whole", [(), ()]))
        self.same([is_whole_paper(NONE, value) for value in
                   [("whole", [(), ()]), ("whole", ((), ())), ("whole", []), ("whole", [()]), ("whole", [(), (), ()]),
                    ("whole", [[], []]), ("whole", [((),), ((),)]), ("whole", [(), None]), ("whole", None)]],
                  [True, True] + [False] * 7)
        self.same([whole_paper(all_rows(5, (0, 0))), whole_paper(all_rows(5, (1, 0)))],
                  [("whole", unit_table(2)), ("whole", [((), (1,)), ((1,), ())])])

    def test_wrong_values(self):
        for span in (LINE, SPAN, NONE, all_rows(2, (0,))):
            for value in [*WRONG, (), 0, ("whole",), ("open",), ("open", (0, 1)), "whole", "open", ("whole", "x"), (None, []),
                          ("Whole", []), (span, []), (["whole"], []), ("whole", [], []), ("whole", [None, None]),
                          ("open", None, None), ("open", (0, 1), None), ("open", [0, 1], ((1,), (1,)))]:
                self.same(is_whole_paper(span, value), False)

    def test_told_lists_are_new(self):
        span = Span(5, (0, 0), [((1,), ())])
        whole_paper(span)[1].append(1)
        whole_paper(NONE)[1].append(1)
        self.same([whole_paper(span), whole_paper(NONE)], [("whole", [((1,),), ((),)]), ("whole", [(), ()])])

    def test_spans_do_not_change(self):
        draw = drawing(257)
        span = thin_span(draw, (7,))
        before = state_of(span)
        paper = whole_paper(span)
        self.same([is_whole_paper(span, paper), is_whole_paper(span, None), row_in(draw, span) in closure(span)],
                  [True, False, True])
        self.same(state_of(span), before)


if __name__ == "__main__":
    unittest.main()
