import unittest

from cases import WRONG, Case, bent
from freetops.questions import KINDS, is_question
from freetops.spans import Span

QUESTIONS = [("member", "a", ((1,), ())), ("near", "abcdef", ((),), -200), ("near", "z", ((4, 0, 1),) * 6, 200), ("whole", "q"),
             ("order", "b", 0), ("order", "b", 10 ** 5000), ("visit", "c", (0, 0, 1)), ("visit", "c", (4,)),
             ("member", "a", ((0, 0, 0, 3),) * 9)]
LENGTHS = {"member": 3, "near": 4, "whole": 2, "order": 3, "visit": 3}


def is_residue(value):
    return type(value) is int and 0 <= value < 5


def is_row(value):
    return (isinstance(value, tuple) and value != ()
            and all(isinstance(form, tuple) and all(map(is_residue, form)) and form[-1:] != (0,) for form in value))


def question_by_definition(value):
    """For the prime 5."""
    if not isinstance(value, tuple) or not value or not isinstance(value[0], str) or LENGTHS.get(value[0]) != len(value):
        return False
    word, name, *more = value
    if not isinstance(name, str) or not 1 <= len(name) <= 6 or not all("a" <= letter <= "z" for letter in name):
        return False
    if word in ("member", "near") and not is_row(more[0]):
        return False
    if word == "near":
        return type(more[1]) is int and -200 <= more[1] <= 200
    if word == "order":
        return type(more[0]) is int and more[0] >= 0
    if word == "visit":
        return isinstance(more[0], tuple) and all(map(is_residue, more[0])) and any(more[0])
    return True


class Questions(Case):
    def test_kinds(self):
        self.same(KINDS, ("span", "letters", "points", "curve"))

    def test_right_questions(self):
        for question in QUESTIONS:
            self.same(is_question(5, question), True)
        self.same([is_question(prime=7, value=("visit", "a", (6, 0))), is_question(5, ("visit", "a", (6, 0)))], [True, False])

    def test_bent_questions(self):
        seen = {True: 0, False: 0}
        for question in QUESTIONS:
            for value in bent(question):
                found = is_question(5, value)
                self.same(found, question_by_definition(value))
                seen[found] += 1
        self.assertGreater(seen[False], 800)
        self.assertGreater(seen[True], 20)

    def test_wrong_questions(self):
        for value in [*WRONG, (), ("member",), ("whole",), ("whole", "a", "b"), ("Whole", "a"), ("whole", "A"), ("whole", ""),
                      ("whole", "abcdefg"), ("whole", 5), ("whole", None), ("whole", ["a"]), ["whole", "a"], ([], "a"), (("whole",), "a"),
                      ("member", "a", ()), ("member", "a", [(1,)]), ("member", "a", (1,)), ("member", "a", ((5,),)), ("member", "a", ((0,),)),
                      ("member", "a", ((True,),)), ("near", "a", ((1,),), 201), ("near", "a", ((1,),), -201), ("near", "a", ((1,),), True),
                      ("near", "a", ((1,),), None), ("near", "a", ((1,),)), ("order", "a", -1), ("order", "a", True), ("order", "a", False),
                      ("order", "a", "1"), ("order", "a"), ("visit", "a", ()), ("visit", "a", (0, 0)), ("visit", "a", [1]),
                      ("visit", "a", (True,)), ("visit", "a", (5,)), ("visit", "a", ((1,),)), ("names",), ("heights", "a"),
                      (Span(5, (0,)), "a"), ("whole", Span(5, (0,)))]:
            self.same(is_question(5, value), False)


if __name__ == "__main__":
    unittest.main()
