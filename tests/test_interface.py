"""The names, arguments and kinds of the interface, as the document lists them."""

import importlib
import inspect
import unittest

FUNCTIONS = {
    "numbers": ["is_number(value, least, most)", "is_name(value)", "is_prime(value)", "is_residue(prime, value)",
                "inverse(prime, residue)"],
    "forms": ["is_form(prime, value)", "form_of(prime, numbers)", "degree_of(form)", "add(prime, one, other)",
              "subtract(prime, one, other)", "multiply(prime, one, other)", "scaled(prime, form, number)",
              "raised(form, by)", "monic_of(prime, form)", "value_at(prime, form, point)"],
    "division": ["divided(prime, form, by)", "divides(prime, by, form)", "divisor_of(prime, forms)",
                 "divisor_with(prime, forms)", "power_remainder(prime, form, number, by)"],
    "formpoints": ["digits_at(prime, form, point)", "from_digits(prime, digits, point)",
                   "multiplicity(prime, form, point)", "roots(prime, form)", "vanishing_at(prime, points)",
                   "form_through(prime, pairs)"],
    "formtexts": ["write_form(form)", "write_row(row)", "read_form(prime, text)", "read_row(prime, text)"],
    "rows": ["is_row(prime, places, value)", "is_lifts(places, value)", "zero_row(places)", "unit_row(places, place)",
             "add_rows(prime, one, other)", "subtract_rows(prime, one, other)", "row_times(prime, row, form)",
             "product_of(prime, one, other)", "combined(prime, forms, rows)", "height_of(row, lifts)",
             "top_of(row, lifts)", "lead_of(row, lifts)", "level_of(row, lifts)"],
    "tables": ["unit_table(places)", "multiply_tables(prime, one, other)", "turned_table(table)",
               "determinant(prime, table)"],
    "tops": ["are_apart(rows, lifts)", "are_free_topped(prime, rows, lifts)", "top_relation(prime, rows, lifts)"],
    "folding": ["base_of(prime, lifts, rows)"],
    "spans": ["all_rows(prime, lifts)", "have_same_rows(one, other)"],
    "members": ["are_alike(one, other)", "told_apart(one, other)"],
    "rests": ["rest_at(span, number)", "number_of_rest(span, rest)", "rests(span)", "power_rest(span, number, row)"],
}
CLASSES = {
    ("folding", "Folding"): ["__init__(self, prime, lifts, rows)", "base(self)", "ways(self)", "backs(self)",
                             "nulls(self)"],
    ("spans", "Span"): ["__init__(self, prime, lifts, rows=())", "key(self)", "leads(self)", "rest_of(self, row)",
                        "way_of(self, row)", "__contains__(self, row)", "__add__(self, other)",
                        "is_within(self, other)", "text(self)", "__str__(self)", "__eq__(self, other)",
                        "__len__(self)", "__bool__(self)", "__repr__(self)"],
}


class Interface(unittest.TestCase):
    def test_functions(self):
        for module, entries in FUNCTIONS.items():
            found = importlib.import_module(f"freetops.{module}")
            for entry in entries:
                function = getattr(found, entry.partition("(")[0])
                self.assertEqual(function.__name__ + str(inspect.signature(function)), entry)
                self.assertEqual(function.__module__, found.__name__)

    def test_classes_have_their_methods_in_their_own_bodies(self):
        for (module, name), entries in CLASSES.items():
            found = getattr(importlib.import_module(f"freetops.{module}"), name)
            self.assertEqual(found.__module__, f"freetops.{module}")
            for entry in entries:
                method = vars(found)[entry.partition("(")[0]]
                self.assertEqual(method.__name__ + str(inspect.signature(method)), entry)

    def test_properties_and_static_methods(self):
        span = importlib.import_module("freetops.spans").Span
        self.assertIsInstance(vars(span)["heights"], property)
        self.assertIsInstance(vars(span)["read"], staticmethod)
        self.assertEqual(str(inspect.signature(span.read)), "(text)")

    def test_generators(self):
        rests = importlib.import_module("freetops.rests").rests
        self.assertTrue(inspect.isgeneratorfunction(rests))


if __name__ == "__main__":
    unittest.main()
