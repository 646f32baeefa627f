"""The names, arguments and kinds of the interface, as the document lists them."""

import importlib
import inspect
import unittest

FUNCTIONS = {
    "numbers": ["is_number(value, least, most)", "is_name(value)", "is_prime(value)", "is_residue(prime, value)",
                "inverse(prime, residue)"],
    "forms": ["is_form(prime, value)", "form_of(prime, numbers)", "degree_of(form)", "add(prime, one, other)",
              "subtract(prime, one, other)", "multiply(prime, one, other)", "scaled(prime, form, number)",
              "raised(form, by)", "monic_of(prime, form)", "value_at(prime, form, point)"],
    "division": ["divided(prime, form, by)", "divides(prime, by, form)", "divisor_of(prime, forms)",
                 "divisor_with(prime, forms)", "power_remainder(prime, form, number, by)"],
    "formpoints": ["digits_at(prime, form, point)", "from_digits(prime, digits, point)",
                   "multiplicity(prime, form, point)", "roots(prime, form)", "vanishing_at(prime, points)",
                   "form_through(prime, pairs)"],
    "formtexts": ["write_form(form)", "write_row(row)", "read_form(prime, text)", "read_row(prime, text)"],
    "rows": ["is_row(prime, places, value)", "is_lifts(places, value)", "zero_row(places)", "unit_row(places, place)",
             "add_rows(prime, one, other)", "subtract_rows(prime, one, other)", "row_times(prime, row, form)",
             "product_of(prime, one, other)", "combined(prime, forms, rows)", "height_of(row, lifts)",
             "top_of(row, lifts)", "lead_of(row, lifts)", "level_of(row, lifts)"],
    "tables": ["unit_table(places)", "multiply_tables(prime, one, other)", "turned_table(table)",
               "determinant(prime, table)"],
    "tops": ["are_apart(rows, lifts)", "are_free_topped(prime, rows, lifts)", "top_relation(prime, rows, lifts)"],
    "folding": ["base_of(prime, lifts, rows)"],
    "spans": ["all_rows(prime, lifts)", "have_same_rows(one, other)"],
    "members": ["are_alike(one, other)", "told_apart(one, other)"],
    "rests": ["rest_at(span, number)", "number_of_rest(span, rest)", "rests(span)", "power_rest(span, number, row)"],
    "conditions": ["is_condition(prime, places, value)", "meets(prime, row, condition)", "cut(span, *conditions)",
                   "steps(span, condition)"],
    "lifting": ["lifted(span, lifts)", "lift_place(span, place, by=1)", "walk(span, lifts)"],
    "growth": ["played(span, deeds)"],
    "meets": ["relations(prime, rows, lifts)", "sum_of(first, *others)", "meet_of(first, *others)"],
    "whole": ["is_whole(span)", "closure(span)", "index_form(span)", "whole_paper(span)", "is_whole_paper(span, value)"],
    "across": ["across(span)"],
    "counting": ["free_number(span, *, within)", "row_at(span, number, *, within)", "number_of(span, row, *, within)",
                 "rows_up_to(span, *, within)"],
    "opposites": ["least_form(span)", "fits(span, form)", "opposite(span, *, by=None)"],
    "readings": ["reads_zero(reading, span)"],
    "near": ["nearest(span, row)", "near_paper(span, row, *, within)", "is_near_paper(span, row, value, *, within)"],
    "reach": ["reach(span)", "deepest(span)", "all_near(span, *, within)"],
    "pairing": ["pairing(one, other)"],
    "denominators": ["fraction_span(prime, forms, by, lifts)", "denominator_row(span)"],
    "rules": ["is_rule(room, value)", "free_rules(room, *, order)", "rules(room, *, order)",
              "told_columns(room, *, order)", "least_rule(room)", "sure_column(room)", "far_column(room, number)"],
    "answers": ["is_answer(room, value, *, faults)", "faults_of(room, answer)", "answers(room, *, faults)",
                "fewest_faults(room)"],
    "shares": ["secrets(room, *, faults)", "sure_liars(room, *, faults)", "sure_points(room, *, faults)"],
    "vanishing": ["vanishing_span(prime, pairs, *, bound, times, most)", "row_value(prime, row, form)",
                  "vanishes(prime, row, pair, times)"],
    "digits": ["residual(prime, row, prefix)", "next_digits(prime, row, prefix)",
               "live_prefixes(prime, row, *, bound)", "forms_of_row(prime, row, *, bound)"],
    "lists": ["forms_meeting(prime, pairs, *, bound, met)", "lowest_heights(prime, pairs, *, bound, times)",
              "met_by(prime, pairs, form)"],
    "curves": ["standard(prime, point)"],
    "twosided": ["is_two_sided(prime, value)", "two_sided(form, low=0)", "add_two(prime, one, other)",
                 "multiply_two(prime, one, other)", "is_upward(two)", "is_downward(two)",
                 "multiply_twos(prime, one, other)", "determinant_two(prime, table)"],
    "gluedalike": ["glued_alike(one, other)", "alike_pair(one, other)", "is_alike_pair(one, other, value)",
                   "differing_height(one, other)"],
    "questions": ["is_question(prime, value)"],
    "benchtexts": ["write_bench(bench)", "read_bench(text)", "played_journal(prime, journal)"],
}
CLASSES = {
    ("folding", "Folding"): ["__init__(self, prime, lifts, rows)", "base(self)", "ways(self)", "backs(self)",
                             "nulls(self)"],
    ("spans", "Span"): ["__init__(self, prime, lifts, rows=())", "key(self)", "leads(self)", "rest_of(self, row)",
                        "way_of(self, row)", "__contains__(self, row)", "__add__(self, other)",
                        "is_within(self, other)", "text(self)", "__str__(self)", "__eq__(self, other)",
                        "__len__(self)", "__bool__(self)", "__repr__(self)"],
    ("growth", "Growth"): ["__init__(self, span)", "span(self)", "first(self)", "put(self, row)", "cut(self, condition)",
                           "lift(self, place, by=1)", "undo(self)", "redo(self)", "history(self)", "deeds(self)",
                           "twin(self)", "__repr__(self)"],
    ("readings", "Reading"): ["__init__(self, prime, by, row)", "reading(self, other)"],
    ("letters", "LetterRoom"): ["__init__(self, prime, width, columns=())", "put(self, *letters)", "take_back(self)",
                                "columns(self)", "span(self)", "walk(self)", "twin(self)", "__add__(self, other)",
                                "__eq__(self, other)", "__len__(self)", "__bool__(self)", "__repr__(self)"],
    ("points", "PointRoom"): ["__init__(self, prime, width, bound, heard=())", "put(self, point, *letters)",
                              "lose(self, point)", "heard(self)", "span(self)", "twin(self)",
                              "__contains__(self, point)", "__eq__(self, other)", "__len__(self)", "__bool__(self)",
                              "__repr__(self)"],
    ("curves", "Curve"): ["__init__(self, prime, forms)", "lines(self)", "point_at(self, time)",
                          "meeting_form(self, point)", "visits(self, point)", "multipliers(self, point)",
                          "crossings(self)", "turned(self, table)", "backward(self)", "begun_at(self, by)",
                          "__eq__(self, other)", "__repr__(self)"],
    ("gluings", "Gluing"): ["__init__(self, prime, table)", "table(self)", "span(self)", "splitting(self)",
                            "is_splitting(self, value)", "sections(self, *, within)", "__add__(self, other)",
                            "__mul__(self, other)", "moved(self, by)", "about(self)", "__eq__(self, other)",
                            "__repr__(self)"],
    ("bench", "Bench"): ["__init__(self, prime)", "do(self, *deeds)", "undo(self)", "redo(self)", "history(self)",
                         "journal(self)", "begin_draft(self)", "keep_draft(self)", "give_up(self)",
                         "tried(self, *deeds)", "names(self)", "kind_of(self, name)", "holding(self, name)",
                         "__contains__(self, name)", "__len__(self)", "__bool__(self)", "paper(self, question)",
                         "is_right(self, question, value)", "keep(self, question)", "kept(self, number)",
                         "is_good(self, number)", "say(self, line)", "__call__(self, line)", "log(self)",
                         "text(self)", "twin(self)", "__eq__(self, other)", "__repr__(self)"],
}
PROPERTIES = {("spans", "Span"): ["heights"], ("growth", "Growth"): ["heights"],
              ("letters", "LetterRoom"): ["heights", "least_order"], ("points", "PointRoom"): ["heights"],
              ("gluings", "Gluing"): ["heights"], ("bench", "Bench"): ["in_draft"]}
GENERATORS = {"rests": "rests", "lifting": "walk", "counting": "rows_up_to"}


class Interface(unittest.TestCase):
    def test_functions(self):
        for module, entries in FUNCTIONS.items():
            found = importlib.import_module(f"freetops.{module}")
            for entry in entries:
                function = getattr(found, entry.partition("(")[0])
                self.assertEqual(function.__name__ + str(inspect.signature(function)), entry)
                self.assertEqual(function.__module__, found.__name__)

    def test_classes_have_their_methods_in_their_own_bodies(self):
        for (module, name), entries in CLASSES.items():
            found = getattr(importlib.import_module(f"freetops.{module}"), name)
            self.assertEqual(found.__module__, f"freetops.{module}")
            for entry in entries:
                method = vars(found)[entry.partition("(")[0]]
                self.assertEqual(method.__name__ + str(inspect.signature(method)), entry)

    def test_properties_and_static_methods(self):
        for (module, name), entries in PROPERTIES.items():
            found = getattr(importlib.import_module(f"freetops.{module}"), name)
            for entry in entries:
                self.assertIsInstance(vars(found)[entry], property)
        span = importlib.import_module("freetops.spans").Span
        self.assertIsInstance(vars(span)["read"], staticmethod)
        self.assertEqual(str(inspect.signature(span.read)), "(text)")

    def test_generators(self):
        for module, name in GENERATORS.items():
            found = getattr(importlib.import_module(f"freetops.{module}"), name)
            self.assertTrue(inspect.isgeneratorfunction(found))
        self.assertTrue(inspect.isgeneratorfunction(importlib.import_module("freetops.letters").LetterRoom.walk))
        self.assertTrue(inspect.isgeneratorfunction(importlib.import_module("freetops.gluings").Gluing.sections))

    def test_kinds(self):
        found = importlib.import_module("freetops.questions").KINDS
        self.assertEqual(found, ("span", "letters", "points", "curve"))


if __name__ == "__main__":
    unittest.main()
