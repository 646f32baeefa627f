import unittest

from cases import PRIMES, Case, drawing, drawn_lifts, drawn_rows
from freetops.errors import InvalidText
from freetops.spans import Span


class SpanTexts(Case):
    def wrong(self, text, line, why):
        self.raises(InvalidText, {"line": line, "why": why}, Span.read, text)

    def test_written(self):
        span = Span(5, (0, -20), [((1, 0, 1), (0, 1)), ((0, 0, 0, 1), (2, 0, 1))])
        self.same(span.text(), "span 5 0 -20\n" + "".join(f"row {row}\n" for row in self.texts(span)))
        self.same([str(span), f"{span}"], [span.text(), span.text()])
        self.same(Span(5, (0, 0), [((0, 1), (3,)), ((2,), (0, 1))]).text(), "span 5 0 0\nrow 0 1, 3\nrow 2, 0 1\n")
        self.same([Span(2, (-3,)).text(), Span(97, (0,), [((0, 5),)]).text()], ["span 2 -3\n", "span 97 0\nrow 0 1\n"])

    def texts(self, span):
        return [", ".join(" ".join(str(number) for number in form) or "0" for form in row) for row in span.key()]

    def test_there_and_back(self):
        draw = drawing(91)
        for _ in range(60):
            prime = draw.choice(PRIMES)
            places = draw.randrange(1, 7)
            span = Span(prime, drawn_lifts(draw, places), drawn_rows(draw, prime, places, 5, 6))
            found = Span.read(span.text())
            self.assertEqual(found, span)
            self.same([found.text(), found.lifts, found.prime], [span.text(), span.lifts, span.prime])

    def test_any_rows_are_read(self):
        span = Span.read("span 5 0 0\nrow 0, 0\nrow 1 0 1, 0 1\nrow 0 0 0 1, 2 0 1\nrow 0 1, 3\nrow 0, 0\n")
        self.same(span.text(), "span 5 0 0\nrow 0 1, 3\nrow 2, 0 1\n")
        many = "span 97 0 1 2 3 4 5 6\n" + "row 0 0 0 1, 1, 1, 0, 5, 6, 7\n" * 300
        self.same(Span.read(text=many).rank, 1)
        self.same(Span.read("span 2 0\n").rank, 0)
        self.same(Span.read("span 2 0\nrow 0\n").rank, 0)

    def test_far_lifts(self):
        span = Span.read("span 5 999999999 -999999999\nrow 1 2 3, 1\nrow 1, 0 0 1\n")
        self.same([span.lifts, span.rank], [(999999999, -999999999), 2])
        self.same(Span.read(span.text()) == span, True)

    def test_missing_and_no_strings(self):
        self.wrong("", 0, "missing")
        for value in (None, True, 5, (), [], ["span 5 0\n"], b"span 5 0\n", Span(5, (0,))):
            self.wrong(value, 0, "form")

    def test_first_line(self):
        for line in ("span", "span ", "span 5", "span 5 ", "span  5 0", "span 5  0", " span 5 0", "span 5 0 ", "Span 5 0",
                     "spam 5 0", "span5 0", "span x 0", "span 5 x", "span 05 0", "span 5 00", "span 5 -0", "span -0 0",
                     "span 5 -01", "span 5 --1", "span 5 -", "span 5 +1", "span 1234567890 0", "span 5 1234567890",
                     "span 5 -1234567890", "span 5 0, 0", "", "row 1", "bench 5", "span a 5 0", "span 6 00", "span 5.0 0", "5 0",
                     "6 0"):
            self.wrong(line + "\n", 0, "form")
            self.wrong(line + "\nrow 1\n", 0, "form")
        for line in ("span 6 0", "span 0 0", "span 1 0", "span -5 0", "span 101 0", "span 999999999 0",
                     "span -999999999 0", "span 4 -3 7"):
            self.wrong(line + "\n", 0, "prime")
            self.wrong(line + "\nrow x\n", 0, "prime")

    def test_rows(self):
        head = "span 5 0 0\nrow 1, 2\n"
        for line in ("", "row", "row ", "row  1, 1", " row 1, 1", "row 1, 1 ", "row 1,1", "row 1 0, 1", "row 01, 1", "Row 1, 1",
                     "rows 1, 1", "row 1, -1", "row 1, -0", "row 1, 1234567890", "span 5 0 0", "row 5, 01", "row 5 0", "row 01",
                     "row 1, 2,", "row x", "row row 1, 1", "1, 1", "5, 5"):
            self.wrong(head + line + "\n", 2, "form")
            self.wrong(head + line + "\nrow 7, 7\n", 2, "form")
        for line in ("row 5, 1", "row 1, 0 7", "row 5", "row 1, 1, 5", "row 999999999, 1"):
            self.wrong(head + line + "\nrow 1\n", 2, "residue")
        for line in ("row 1", "row 1, 1, 1", "row 0", "row 0, 0, 0"):
            self.wrong(head + line + "\nx\n", 2, "places")

    def test_a_last_line_without_its_line_feed(self):
        for text in ("span 5 0", "span 6 0", "x", "span 5 0 ", "row 1"):
            self.wrong(text, 0, "form")
        for line in ("row 1", "row 5", "row 1, 1", "x", " "):
            self.wrong("span 5 0\n" + line, 1, "form")
            self.wrong("span 5 0\nrow 1\n" + line, 2, "form")
        self.wrong("span 6 0\nrow 1", 0, "prime")
        self.wrong("span 5 0\nrow 7\nrow 1", 1, "residue")
        self.wrong("span 5 0\nrow 1\n\n", 2, "form")
        self.wrong("\nspan 5 0\n", 0, "form")
        self.wrong("\n", 0, "form")


if __name__ == "__main__":
    unittest.main()
