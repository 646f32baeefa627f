import unittest

from cases import PRIMES, Case, drawing, drawn_form, drawn_row
from freetops.errors import InvalidText
from freetops.formtexts import read_form, read_row, write_form, write_row


class FormTexts(Case):
    def wrong_form(self, text, why, prime=5):
        self.raises(InvalidText, {"line": 0, "why": why}, read_form, prime, text)

    def wrong_row(self, text, why, prime=5):
        self.raises(InvalidText, {"line": 0, "why": why}, read_row, prime, text)

    def test_written(self):
        self.same([write_form(()), write_form((3,)), write_form((0, 1)), write_form(form=(4, 0, 96))],
                  ["0", "3", "0 1", "4 0 96"])
        self.same([write_row(((0, 1), (3,))), write_row(((),)), write_row(row=((), (1,), ()))],
                  ["0 1, 3", "0", "0, 1, 0"])

    def test_read(self):
        self.same([read_form(5, "0"), read_form(5, "3"), read_form(5, "0 1"), read_form(97, "4 0 96")],
                  [(), (3,), (0, 1), (4, 0, 96)])
        self.same([read_row(5, "0 1, 3"), read_row(5, "0"), read_row(2, "0, 1, 0")],
                  [((0, 1), (3,)), ((),), ((), (1,), ())])
        self.same(read_form(prime=5, text="1"), (1,))
        self.same(read_row(prime=5, text="1"), ((1,),))
        self.same(read_row(2, ", ".join(["1"] * 30)), ((1,),) * 30)

    def test_there_and_back(self):
        draw = drawing(21)
        for _ in range(100):
            prime = draw.choice(PRIMES)
            form = drawn_form(draw, prime, 40)
            self.same(read_form(prime, write_form(form)), form)
            row = drawn_row(draw, prime, draw.randrange(1, 7), 9)
            self.same(read_row(prime, write_row(row)), row)

    def test_wrong_texts_of_a_form(self):
        for text in ("1 0", "0 0", "00", "01", "1 02", "-1", "-0", "1 -1", "+1", " 1", "1 ", " ", "1  2", "x", "1x",
                     "1,2", "1, 2", "1 , 2", "1\n", "\n", "\n1", "1\n2", "1 2\n", "1.0", "1_0", "1234567890",
                     "0000000000", "9 0", "9 01", "9  1", "9 1234567890", "-", "1 -"):
            self.wrong_form(text, "form")
            if ", " not in text:
                self.wrong_row(text, "form")

    def test_residues(self):
        for text in ("5", "1 5", "5 1", "123456789", "999999999 1", "0 5"):
            self.wrong_form(text, "residue")
            self.wrong_row(text, "residue")
        self.wrong_form("2", "residue", 2)
        self.wrong_form("97", "residue", 97)
        self.same(read_form(97, "96"), (96,))

    def test_wrong_texts_of_a_row(self):
        for text in ("1,2", "1 ,2", "1 , 2", "1,  2", "1, ", ", 1", ",", ", ", "1,, 2", "1, 2,", "1, 2, ", "1, 2 0",
                     "1,\n2", "1, 2\n", "5, 01", "01, 5", "5 0, 1", "5, 6, -1", "1, 1234567890"):
            self.wrong_row(text, "form")
        for text in ("1, 5", "5, 1", "0, 0 7", "1, 123456789"):
            self.wrong_row(text, "residue")

    def test_missing(self):
        self.wrong_form("", "missing")
        self.wrong_row("", "missing")

    def test_no_strings(self):
        for value in (None, True, 0, 1, (), (1,), [], ["1"], ("1",), b"1"):
            self.wrong_form(value, "form")
            self.wrong_row(value, "form")

    def test_example(self):
        self.raises(InvalidText, {"line": 0, "why": "form"}, read_form, 5, "1 0")


if __name__ == "__main__":
    unittest.main()
