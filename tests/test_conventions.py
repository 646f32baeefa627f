"""What holds for the whole program: names of arguments, equal calls, arguments that stay, lists that are new."""

import copy
import importlib
import inspect
import unittest

from cases import Case
from freetops import errors
from freetops.bench import Bench
from freetops.curves import Curve
from freetops.gluings import Gluing
from freetops.growth import Growth
from freetops.letters import LetterRoom
from freetops.points import PointRoom
from freetops.readings import Reading
from freetops.spans import Span
from test_interface import CLASSES, FUNCTIONS

ROW = ((0, 1), (3,))
ROWS = [ROW, ((2,), (0, 1))]
SPAN = Span(5, (0, 0), ROWS)
THIN = Span(5, (0, 0), [((0, 1), (0, 1))])
LETTERS = LetterRoom(5, 1, [(1,), (1,), (2,), (3,), (0,), (3,), (3,), (1,)])
POINTS = PointRoom(7, 1, 2, [(5, (6,)), (1, (3,)), (2, (5,)), (3, (0,)), (4, (2,)), (6, (6,))])
PAIRS = [(0, 1), (1, 3), (2, 5), (3, 0), (4, 5), (5, 4), (6, 3)]
CURVE = Curve(7, [(6, 0, 1), (0, 6, 0, 1), (1,)])
TWOS = [((1, (1,)), (0, (1,))), ((0, ()), (-1, (1,)))]
GLUING = Gluing(5, TWOS)
CONDITION = (2, ((1,), (1,)), 1)
DEEDS = [("put", ROW), ("cut", CONDITION), ("lift", 0, 1)]


def small_bench():
    bench = Bench(5)
    bench.do(("span", "a", [0, 0], ROWS), ("span", "w", (0,), [((1,),)]), ("letters", "b", 1), ("column", "b", (0,)))
    bench.keep(("whole", "w"))
    bench.say("names")
    return bench


# for each function its arguments by position, and those that stand behind a star
CALLS = {
    "numbers": {"is_number": [3, 0, 5], "is_name": ["abc"], "is_prime": [5], "is_residue": [5, 4], "inverse": [5, 3]},
    "forms": {"is_form": [5, (1, 2)], "form_of": [5, [7, 0, 5]], "degree_of": [(1, 2)], "add": [5, (1, 2), (4, 3)],
              "subtract": [5, (1, 2), (4,)], "multiply": [5, (1, 2), (4, 3)], "scaled": [5, (1, 2), 3], "raised": [(1,), 2],
              "monic_of": [5, (1, 2)], "value_at": [5, (1, 2), 3]},
    "division": {"divided": [5, (1, 2, 3), (1, 2)], "divides": [5, (1, 2), (2, 4)], "divisor_of": [5, [(0, 1), (0, 0, 2)]],
                 "divisor_with": [5, [(1, 1), (0, 1)]], "power_remainder": [5, (0, 1), 10 ** 30, (1, 1, 1)]},
    "formpoints": {"digits_at": [5, (1, 2, 3), 2], "from_digits": [5, (1, 2), 3], "multiplicity": [5, (0, 0, 1), 0],
                   "roots": [5, (4, 0, 1)], "vanishing_at": [5, [1, 2]], "form_through": [5, [(0, 1), (1, 3)]]},
    "formtexts": {"write_form": [(1, 2)], "write_row": [ROW], "read_form": [5, "1 2"], "read_row": [5, "0 1, 3"]},
    "rows": {"is_row": [5, 2, ROW], "is_lifts": [2, (0, 1)], "zero_row": [2], "unit_row": [2, 1], "add_rows": [5, ROW, ROW],
             "subtract_rows": [5, ROW, ROWS[1]], "row_times": [5, ROW, (1, 1)], "product_of": [5, ROW, ROW],
             "combined": [5, [(1,), (0, 1)], ROWS], "height_of": [ROW, (0, 0)], "top_of": [ROW, (0, 0)], "lead_of": [ROW, [0, 0]],
             "level_of": [ROW, [0, 2]]},
    "tables": {"unit_table": [2], "multiply_tables": [5, ROWS, ROWS], "turned_table": [ROWS], "determinant": [5, ROWS]},
    "tops": {"are_apart": [ROWS, [0, 0]], "are_free_topped": [5, ROWS, [0, 0]], "top_relation": [5, [ROW, ROW], [0, 0]]},
    "folding": {"base_of": [5, [0, 0], ROWS]},
    "spans": {"all_rows": [5, [0, 2]], "have_same_rows": [SPAN, THIN]},
    "members": {"are_alike": [SPAN, THIN], "told_apart": [SPAN, THIN]},
    "rests": {"rest_at": [SPAN, 7], "number_of_rest": [SPAN, ((2,), (1,))], "rests": [SPAN], "power_rest": [SPAN, 10 ** 30, ROW]},
    "conditions": {"is_condition": [5, 2, CONDITION], "meets": [5, ROW, CONDITION], "cut": [SPAN, CONDITION], "steps": [SPAN, CONDITION]},
    "lifting": {"lifted": [SPAN, [0, 2]], "lift_place": [SPAN, 1, 3], "walk": [SPAN, [2, -1]]},
    "growth": {"played": [SPAN, DEEDS]},
    "meets": {"relations": [5, [ROW, ROW], [0, 1]], "sum_of": [SPAN, THIN], "meet_of": [SPAN, THIN]},
    "whole": {"is_whole": [THIN], "closure": [THIN], "index_form": [THIN], "whole_paper": [Span(5, (0,), [((1,),)])],
              "is_whole_paper": [THIN, ("open", (0, 1), ((1,), (1,)))]},
    "across": {"across": [THIN]},
    "counting": {"free_number": [SPAN, {"within": 1}], "row_at": [SPAN, 7, {"within": 1}], "number_of": [SPAN, ROW, {"within": 2}],
                 "rows_up_to": [SPAN, {"within": 1}]},
    "opposites": {"least_form": [SPAN], "fits": [SPAN, (4, 0, 1)], "opposite": [SPAN, {"by": (4, 0, 1)}]},
    "readings": {"reads_zero": [Reading(5, (4, 0, 1), ROW), SPAN]},
    "near": {"nearest": [SPAN, ((1,), ())], "near_paper": [SPAN, ((1,), ()), {"within": -1}],
             "is_near_paper": [SPAN, ((1,), ()), ("row", ((), ()), ((1,), ())), {"within": 0}]},
    "reach": {"reach": [SPAN], "deepest": [SPAN], "all_near": [SPAN, {"within": 0}]},
    "pairing": {"pairing": [SPAN, THIN]},
    "denominators": {"fraction_span": [5, [(1, 2)], (1, 0, 1), [0, 0]], "denominator_row": [SPAN]},
    "rules": {"is_rule": [LETTERS, (1, 4, 4)], "free_rules": [LETTERS, {"order": 5}], "rules": [LETTERS, {"order": 2}],
              "told_columns": [LETTERS, {"order": 2}], "least_rule": [LETTERS], "sure_column": [LETTERS],
              "far_column": [LETTERS, 10 ** 30]},
    "answers": {"is_answer": [POINTS, ((1, 2),), {"faults": 1}], "faults_of": [POINTS, ((1, 2),)], "answers": [POINTS, {"faults": 2}],
                "fewest_faults": [POINTS]},
    "shares": {"secrets": [POINTS, {"faults": 1}], "sure_liars": [POINTS, {"faults": 1}], "sure_points": [POINTS, {"faults": 1}]},
    "vanishing": {"vanishing_span": [7, PAIRS, {"bound": 2, "times": 1, "most": 2}], "row_value": [5, ROW, (1, 1)],
                  "vanishes": [5, ROW, (1, 3), 1]},
    "digits": {"residual": [7, ((2, 3, 5), (4, 6), (1,)), (1, 2)], "next_digits": [7, ((2, 3, 5), (4, 6), (1,)), ()],
               "live_prefixes": [7, ((2, 3, 5), (4, 6), (1,)), {"bound": 2}], "forms_of_row": [7, ((2, 3, 5), (4, 6), (1,)), {"bound": 2}]},
    "lists": {"forms_meeting": [7, PAIRS, {"bound": 2, "met": 3}], "lowest_heights": [7, PAIRS, {"bound": 2, "times": 1}],
              "met_by": [7, PAIRS, (1, 2)]},
    "curves": {"standard": [7, (0, 3, 6)]},
    "twosided": {"is_two_sided": [5, (-1, (1,))], "two_sided": [(0, 1), -4], "add_two": [5, (-1, (1,)), (1, (1,))],
                 "multiply_two": [5, (-1, (1,)), (1, (2,))], "is_upward": [(1, (1,))], "is_downward": [(1, (1,))],
                 "multiply_twos": [5, TWOS, TWOS], "determinant_two": [5, TWOS]},
    "gluedalike": {"glued_alike": [GLUING, GLUING], "alike_pair": [GLUING, GLUING],
                   "is_alike_pair": [GLUING, GLUING, ([((1,), ()), ((), (1,))], [])], "differing_height": [GLUING, GLUING.moved(1)]},
    "questions": {"is_question": [5, ("whole", "a")]},
    "benchtexts": {"write_bench": [small_bench()], "read_bench": [small_bench().text()], "played_journal": [5, small_bench().journal()]},
}
# for each class an object, and the arguments of its methods that change nothing
METHODS = [
    (lambda: Span(5, (0, 0), ROWS), {"key": [], "leads": [], "rest_of": [((1,), ())], "way_of": [ROW], "is_within": [SPAN], "text": []}),
    (lambda: importlib.import_module("freetops.folding").Folding(5, [0, 0], ROWS + [ROW]), {"base": [], "ways": [], "backs": [], "nulls": []}),
    (lambda: importlib.import_module("freetops.growth").played(SPAN, DEEDS), {"span": [], "first": [], "history": [], "deeds": [], "twin": []}),
    (lambda: Reading(5, (4, 0, 1), ROW), {"reading": [((1,), (0, 1))]}),
    (lambda: LetterRoom(5, 1, [(1,), (1,), (2,)]), {"columns": [], "span": [], "walk": [], "twin": []}),
    (POINTS.twin, {"heard": [], "span": [], "twin": []}),
    (lambda: Curve(7, list(CURVE.forms)), {
        "lines": [], "point_at": [3], "meeting_form": [(0, 0, 1)], "visits": [(0, 0, 1)], "multipliers": [(1, 1, 1)], "crossings": [],
        "turned": [[(0, 1, 0), (0, 0, 1), (1, 0, 0)]], "backward": [], "begun_at": [2]}),
    (lambda: Gluing(5, list(TWOS)), {"table": [], "span": [], "splitting": [], "is_splitting": [([], (), [])], "sections": [{"within": 1}],
                                     "moved": [3], "about": []}),
    (small_bench, {"history": [], "journal": [], "tried": [("letters", "c", 1)], "names": [], "kind_of": ["a"], "holding": ["a"],
                   "paper": [("whole", "w")], "is_right": [("whole", "w"), ("whole", [((1,),)])], "kept": [0], "is_good": [0], "log": [],
                   "text": [], "twin": []}),
]


def shown(value):
    """A value with all that can be seen of its objects."""
    if isinstance(value, (list, tuple)):
        return type(value)(shown(item) for item in value)
    if inspect.isgenerator(value):
        return [shown(item) for item in value]
    if isinstance(value, Growth):
        return repr(value), value.deeds(), value.span().text()
    if isinstance(value, (Span, Bench)):
        return repr(value), value.text()
    if isinstance(value, (LetterRoom, PointRoom)):
        return repr(value), shown(value.span()), len(value)
    if isinstance(value, Reading):
        return value.prime, value.by, value.row
    if isinstance(value, Curve):
        return repr(value), value.forms
    if isinstance(value, Gluing):
        return repr(value), value.table()
    return value


def spoil(value):
    """Puts something into each list of a value, at any depth."""
    if isinstance(value, (list, tuple)):
        for item in value:
            spoil(item)
    if isinstance(value, list):
        value.append("spoilt")


def split(given):
    """The arguments by position, and those by name."""
    if given and isinstance(given[-1], dict):
        return given[:-1], given[-1]
    return given, {}


class Conventions(Case):
    def check(self, call, given, known=None):
        """By position, by name in any order, once more, and behind changes of what was returned."""
        plain, named = split(given)
        before = shown(copy.deepcopy(plain))
        wanted = shown(call(*plain, **named))
        self.same(shown(plain), before)
        parameters = inspect.signature(call).parameters.values()
        names = [parameter.name for parameter in parameters if parameter.kind == parameter.POSITIONAL_OR_KEYWORD]
        if not any(parameter.kind == parameter.VAR_POSITIONAL for parameter in parameters):
            everything = {**dict(zip(names, plain)), **named}
            self.same(shown(call(**everything)), wanted)
            self.same(shown(call(**dict(reversed(list(everything.items()))))), wanted)
        found = call(*plain, **named)
        if not inspect.isgenerator(found):
            spoil(found)
        self.same(shown(call(*plain, **named)), wanted)
        self.same(shown(plain), before)
        return wanted

    def test_functions(self):
        for module, entries in FUNCTIONS.items():
            found = importlib.import_module(f"freetops.{module}")
            self.assertEqual(sorted(CALLS[module]), sorted(entry.partition("(")[0] for entry in entries))
            for name, given in CALLS[module].items():
                with self.subTest(f"{module}.{name}"):
                    self.check(getattr(found, name), given)

    def test_methods(self):
        for make, entries in METHODS:
            one, other = make(), make()
            name = type(one).__name__
            listed = [entry.partition("(")[0] for entry in CLASSES[next(key for key in CLASSES if key[1] == name)]]
            for method, given in entries.items():
                with self.subTest(f"{name}.{method}"):
                    self.assertIn(method, listed)
                    before = shown(one)
                    wanted = self.check(getattr(one, method), given)
                    # objects that were made by equal calls return equal results
                    plain, named = split(given)
                    self.same(shown(getattr(other, method)(*plain, **named)), wanted)
                    self.same(shown(one), before)

    def test_constructors_by_name_and_copies_of_lists(self):
        for make, given in ((Span, {"prime": 5, "lifts": [0, 0], "rows": list(ROWS)}),
                            (LetterRoom, {"prime": 5, "width": 1, "columns": [(1,), (2,)]}),
                            (PointRoom, {"prime": 7, "width": 1, "bound": 2, "heard": [(1, (3,)), (2, (5,))]}),
                            (Curve, {"prime": 7, "forms": list(CURVE.forms)}), (Gluing, {"prime": 5, "table": list(TWOS)})):
            before = copy.deepcopy(given)
            one, other = make(**given), make(**dict(reversed(list(given.items()))))
            self.same([shown(one), given], [shown(other), before])
            self.same([one == other, shown(make(*given.values()))], [True, shown(one)])
            for value in given.values():
                if isinstance(value, list):
                    value.clear()
            self.same([shown(one), one == other], [shown(other), True])

    def test_defaults(self):
        self.same([Span(5, (0, 0)).rank, len(LetterRoom(5, 1)), len(PointRoom(5, 1, 1))], [0, 0, 0])
        growth = Growth(SPAN)
        growth.lift(1)
        self.same(growth.deeds(), [("lift", 1, 1)])

    def test_errors_of_all_modules(self):
        listed = """NotPrime(value) InvalidName(name) InvalidNumber(value) InvalidForm(at) InvalidRow(at) InvalidLifts(at)
        InvalidCondition(at) InvalidColumn(at) InvalidPoint(at) InvalidTable(at) InvalidDeed(at) InvalidQuestion() InvalidText(line,why)
        Unlike() LowRank(rank) NotWhole(divisor) NotIn(rest) Beyond(met,height) NoSplit(determinant) SamePoint(point) NoAnswer()
        Undetermined(free) NotOff(meeting) Still() Singular() TooMany(free) Full(most) Taken(name) WrongKind(name) InDraft() NoDraft()"""
        bases = {**{entry: errors.FreeError for entry in listed.split()},
                 **{entry: errors.Missing for entry in ("UnknownName(name)", "UnknownPoint(point)", "UnknownKept(at)")},
                 "ZeroForm()": ArithmeticError, "NothingLeft()": IndexError}
        for entry, base in bases.items():
            name, _, names = entry[:-1].partition("(")
            found = getattr(errors, name)
            self.assertEqual(found.__bases__, (base,))
            names = [one for one in names.split(",") if one]
            values = [10 ** 5000, "x"][:len(names)]
            for error in (found(*values), found(**dict(zip(names, values)))):
                self.assertEqual([error.code, [getattr(error, one) for one in names]], [name, values])
        self.same([errors.FreeError.__bases__, errors.Missing.__bases__], [(ValueError,), (LookupError,)])


if __name__ == "__main__":
    unittest.main()
