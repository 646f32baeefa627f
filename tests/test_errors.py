import unittest

from freetops import errors

FREE = {
    "NotPrime": "value", "InvalidName": "name", "InvalidNumber": "value", "InvalidForm": "at",
    "InvalidRow": "at", "InvalidLifts": "at", "InvalidCondition": "at", "InvalidColumn": "at",
    "InvalidPoint": "at", "InvalidTable": "at", "InvalidDeed": "at", "InvalidQuestion": "",
    "InvalidText": "line why", "Unlike": "", "LowRank": "rank", "NotWhole": "divisor", "NotIn": "rest",
    "Beyond": "met height", "NoSplit": "determinant", "SamePoint": "point", "NoAnswer": "",
    "Undetermined": "free", "NotOff": "meeting", "Still": "", "Singular": "", "TooMany": "free",
    "Full": "most", "Taken": "name", "WrongKind": "name", "InDraft": "", "NoDraft": "",
}
MISSING = {"UnknownName": "name", "UnknownPoint": "point", "UnknownKept": "at"}
OTHERS = {"ZeroForm": "", "NothingLeft": ""}
BASES = {"ZeroForm": ArithmeticError, "NothingLeft": IndexError}


class Errors(unittest.TestCase):
    def test_bases(self):
        self.assertEqual(errors.FreeError.__bases__, (ValueError,))
        self.assertEqual(errors.Missing.__bases__, (LookupError,))
        for name in FREE:
            self.assertEqual(getattr(errors, name).__bases__, (errors.FreeError,), name)
        for name in MISSING:
            self.assertEqual(getattr(errors, name).__bases__, (errors.Missing,), name)
        for name in OTHERS:
            self.assertEqual(getattr(errors, name).__bases__, (BASES[name],), name)

    def test_attributes_are_the_values_by_position_and_by_name(self):
        values = [(3, True), ("a", None), ([1], ((1,),)), (10 ** 5000, -1)]
        for name, words in {**FREE, **MISSING, **OTHERS}.items():
            error = getattr(errors, name)
            for pair in values:
                given = pair[:len(words.split())]
                named = dict(zip(words.split(), given))
                for made in (error(*given), error(**named)):
                    self.assertEqual(made.code, name)
                    for word, value in named.items():
                        self.assertIs(getattr(made, word), value)

    def test_messages_can_be_shown_whatever_the_value(self):
        for name, words in {**FREE, **MISSING, **OTHERS}.items():
            made = getattr(errors, name)(*[10 ** 5000 for _ in words.split()])
            self.assertGreater(len(str(made)), 5)
            self.assertIn(name, repr(made))

    def test_nothing_else_is_an_error(self):
        found = [name for name, value in vars(errors).items()
                 if isinstance(value, type) and issubclass(value, Exception)]
        self.assertEqual(sorted(found), sorted([*FREE, *MISSING, *OTHERS, "FreeError", "Missing"]))

    def test_code_is_on_the_error_alone(self):
        self.assertFalse(hasattr(errors.FreeError(), "code"))
        self.assertFalse(hasattr(errors.Missing(), "code"))


if __name__ == "__main__":
    unittest.main()
