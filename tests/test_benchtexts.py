import unittest

from cases import Case, drawing, drawn_form, drawn_lifts, drawn_rows, thin_span
from freetops.bench import Bench
from freetops.benchtexts import played_journal, read_bench, write_bench
from freetops.errors import (FreeError, Full, InvalidDeed, InvalidText, Missing, NotPrime, UnknownKept, UnknownName)
from freetops.spans import Span
from test_bench import CHANGES, SPAN, drawn_deed, full_bench, names, state
from test_curves import drawn_curve

TEXT = """bench 5
span a 0 0
row 0 1, 3
row 2, 0 1
letters b 1
column 4
column 0
points c 2 3
point 4 0 0
point 2 1 2
curve d 1, 0 1, 1 0 1
"""


def wide_bench(draw, prime):
    """A bench with some holdings of each kind."""
    bench = Bench(prime)
    taken = iter(draw.sample(names(200), 8))
    for _ in range(2):
        span, places = next(taken), draw.randrange(1, 4)
        bench.do(("span", span, drawn_lifts(draw, places), drawn_rows(draw, prime, places, 3, 4)))
        width, letters = draw.randrange(1, 4), next(taken)
        bench.do(("letters", letters, width), *[("column", letters, tuple(draw.randrange(prime) for _ in range(width)))
                                                for _ in range(draw.randrange(5))])
        width, points = draw.randrange(1, 4), next(taken)
        heard = draw.sample(range(prime), draw.randrange(min(prime, 5)))
        bench.do(("points", points, width, draw.randrange(1, 21)),
                 *[("point", points, point, tuple(draw.randrange(prime) for _ in range(width))) for point in heard])
        bench.do(("curve", next(taken), drawn_curve(draw, (prime,)).forms))
    return bench


class Written(Case):
    def test_text(self):
        bench = full_bench()
        bench.do(("column", "b", (4,)), ("column", "b", (0,)), ("point", "c", 4, (0, 0)), ("point", "c", 2, (1, 2)))
        self.same([bench.text(), write_bench(bench=bench)], [TEXT, TEXT])
        self.same([write_bench(Bench(97)), Bench(2).text()], ["bench 97\n", "bench 2\n"])

    def test_small_texts(self):
        bench = Bench(5)
        bench.do(("span", "z", (-20, 3), ()), ("curve", "abcdef", [(), (4,), (0, 0, 1)]), ("points", "b", 3, 20), ("letters", "zz", 3))
        self.same(bench.text(), "bench 5\ncurve abcdef 0, 4, 0 0 1\npoints b 3 20\nspan z -20 3\nletters zz 3\n")

    def test_there_and_back(self):
        draw = drawing(691)
        for _ in range(30):
            bench = wide_bench(draw, draw.choice((2, 3, 7, 97)))
            found = read_bench(text=bench.text())
            self.same([found == bench, found.text(), found.names()], [True, bench.text(), bench.names()])
            self.same([found.history(), found.journal(), found.log(), found.in_draft], [(0, 0), [], [], False])
            self.raises(UnknownKept, {"at": 0}, found.kept, 0)
            for name in bench.names():
                self.same([repr(found.holding(name)), found.kind_of(name)], [repr(bench.holding(name)), bench.kind_of(name)])
                if bench.kind_of(name) == "points":
                    self.same(found.holding(name).heard(), bench.holding(name).heard())

    def test_a_bench_that_was_read_goes_on(self):
        bench = read_bench(TEXT)
        before = state(bench)
        bench.do(("column", "b", (1,)), ("lose", "c", 4), ("put", "a", ((1,), ())))
        self.same([bench.history(), bench.holding("b").columns(), bench.holding("c").heard()],
                  [(1, 0), [(4,), (0,), (1,)], [(2, (1, 2))]])
        bench.undo()
        self.same([bench.text(), bench.history()], [TEXT, (0, 1)])
        self.same(before[2], TEXT)

    def test_any_rows_are_read(self):
        bench = read_bench("bench 5\nspan a 0 0\nrow 0, 0\nrow 1 0 1, 0 1\nrow 0 0 0 1, 2 0 1\nrow 0 1, 3\nrow 0, 0\nspan b 999999999\n")
        self.same(bench.text(), "bench 5\nspan a 0 0\nrow 0 1, 3\nrow 2, 0 1\nspan b 999999999\n")
        many = "bench 97\nspan a 0 1 2\n" + "row 0 0 0 1, 1, 1\n" * 200
        self.same(read_bench(many).holding("a").rank, 1)

    def test_drafts_are_written(self):
        bench = full_bench()
        bench.begin_draft()
        bench.do(("drop", "d"))
        self.same([read_bench(bench.text()) == bench, write_bench(bench)], [True, bench.text()])


class Read(Case):
    def wrong(self, text, line, why):
        self.raises(InvalidText, {"line": line, "why": why}, read_bench, text)

    def behind(self, ahead, lines, why):
        """Each of these lines behind others is the first wrong one, whatever follows."""
        at = ahead.count("\n")
        for line in lines:
            self.wrong(ahead + line + "\n", at, why)
            self.wrong(ahead + line + "\nx\n", at, why)
            # without its line feed it is wrong whatever else it is
            if line:
                self.wrong(ahead + line, at, "form")

    def test_missing_and_no_strings(self):
        self.wrong("", 0, "missing")
        for value in (None, True, 5, (), [], ["bench 5\n"], b"bench 5\n", Span(5, (0,)), Bench(5)):
            self.wrong(value, 0, "form")

    def test_first_lines(self):
        self.behind("", ["bench", "bench ", "bench 05", "bench  5", " bench 5", "bench 5 ", "Bench 5", "bench x", "bench 5 5", "bench -0",
                         "bench -05", "bench +5", "bench 1234567890", "bench -1234567890", "span a 0", "span 5 0", "row 1", "", "5",
                         "letters a 1", "bench5", "bench 5.0", "bench 5,"], "form")
        self.behind("", ["bench 6", "bench 0", "bench 1", "bench -5", "bench 101", "bench 999999999", "bench -999999999", "bench -1"], "prime")
        self.same(read_bench("bench 97\n").prime, 97)

    def test_wrong_words_and_names(self):
        for ahead in ("bench 5\n", TEXT, "bench 5\nspan a 0\nrow 1\n"):
            self.behind(ahead, ["bench 5", "bench 6", "", " ", "x", "holding e 1", "Span e 0", "span", "span e", "span e ", "letters", "letters e",
                                "letters e ", "points e", "points e 1", "points e 1 ", "points e 1 1 1", "letters e 1 1", "curve", "curve e",
                                "curve e ", "spane 0", "span  e 0", "span e  0", " span e 0", "span e 0 ", "letters e 1 ", "curve e 0 1, 1 ",
                                "letters e  1", "points e 1  1", "curve e  0 1, 1", "undo", "names", "lettersb 1", "x e 1", "x e 1 1",
                                "lists e 1 1", "bench e 1 1"], "form")
            for name in ("E", "e1", "eeeeeee", "", "e-", "1", "e,", "-"):
                self.behind(ahead, [f"span {name} 0", f"letters {name} 1", f"points {name} 1 1", f"curve {name} 0 1, 1"], "form")

    def test_wrong_numbers(self):
        self.behind(TEXT, ["span e 00", "span e 0 -0", "span e 0,0", "span e 1234567890", "span e 0 +1", "span e x", "span e 0 01", "span e --1",
                           "letters e 01", "letters e x", "letters e -0", "letters e 1234567890", "letters e +1", "points e 01 1",
                           "points e 1 01", "points e 1 -0", "points e 1 1234567890", "points e x 1", "points e 1 x", "letters e -01"], "form")
        self.behind(TEXT, ["letters e 0", "letters e 4", "letters e -1", "letters e 999999999", "letters e -999999999", "points e 0 1",
                           "points e 4 1", "points e -1 1", "points e 1 0", "points e 1 21", "points e 1 -20", "points e 3 999999999"], "number")
        self.same(read_bench(TEXT + "points e 3 20\n").holding("e").bound, 20)

    def test_orders(self):
        lines = ["span {} 0", "letters {} 1", "points {} 1 1", "curve {} 0 1, 1"]
        for line in lines:
            self.behind("bench 5\nletters c 1\n", [line.format(name) for name in ("c", "b", "abcdef", "bzzzzz")], "order")
            for name in ("ca", "d", "cc"):
                self.same(len(read_bench("bench 5\nletters c 1\n" + line.format(name) + "\n")), 2)
        # ahead of a wrong number, of residues, of too many holdings and of what is no curve
        self.behind("bench 5\nletters c 1\n", ["letters b 4", "points b 0 0", "curve b 5, 1", "curve b 1"], "order")
        self.behind("bench 5\nletters c 1\n", ["letters b x", "curve b 1 0", "curve b x"], "form")

    def test_parts_behind_other_holdings(self):
        parts = {"row 1": ("b", "c", "d"), "column 1": ("a", "c", "d"), "point 1 1": ("a", "b", "d")}
        heads = {"a": "span a 0\n", "b": "letters b 1\n", "c": "points c 1 1\n", "d": "curve d 0 1, 1\n"}
        for part, wrong in parts.items():
            self.behind("bench 5\n", [part], "form")
            for name, head in heads.items():
                if name in wrong:
                    self.behind("bench 5\n" + head, [part, part.split()[0]], "form")
                else:
                    self.same(read_bench("bench 5\n" + head + part + "\n").names(), [name])
        self.behind("bench 5\nspan a 0\nrow 1\nletters b 1\n", ["row 1", "row 7", "row"], "form")
        self.behind("bench 5\nletters a 1\nletters b 2\ncolumn 1 1\ncurve c 1, 0 1\n", ["column 1 1", "column 1"], "form")

    def test_rows(self):
        ahead = "bench 5\nspan a 0 0\nrow 1, 2\n"
        self.behind(ahead, ["row", "row ", "row  1, 1", "row 1, 1 ", "row 1,1", "row 1 0, 1", "row 01, 1", "row 1, -1", "row 1, 1234567890",
                            "row 5, 01", "row 5 0", "row 1, 2,", "row x", "rows 1, 1", "Row 1, 1", " row 1, 1"], "form")
        self.behind(ahead, ["row 5, 1", "row 1, 0 7", "row 5", "row 1, 1, 5", "row 999999999, 1"], "residue")
        self.behind(ahead, ["row 1", "row 1, 1, 1", "row 0", "row 0, 0, 0"], "places")

    def test_columns(self):
        ahead = "bench 5\nletters b 2\ncolumn 1 2\n"
        self.behind(ahead, ["column", "column ", "column  1 2", "column 1 2 ", "column 1  2", "column 01 2", "column 1, 2", "column -1 2",
                            "column 1 -0", "column 1 -5", "column x 1", "column 1 1234567890", "column 5 01", "columns 1 2"], "form")
        self.behind(ahead, ["column 5 1", "column 1 5", "column 5", "column 1 2 9", "column 999999999 0"], "residue")
        self.behind(ahead, ["column 1", "column 1 2 3", "column 0 0 0 0"], "places")
        self.same(read_bench(ahead + "column 4 0\n").holding("b").columns(), [(1, 2), (4, 0)])

    def test_points(self):
        ahead = "bench 5\npoints c 2 3\npoint 4 1 2\n"
        self.behind(ahead, ["point", "point ", "point 1", "point 1 ", "point  1 1 2", "point 1  1 2", "point 1 1 2 ", "point 01 1 2", "point -1 1 2",
                            "point 1 -1 2", "point 1 1 -0", "point 1 1, 2", "point x 1 2", "point 1 1234567890 1", "point 5 01 1",
                            "points 1 1 2", "point 4"], "form")
        self.behind(ahead, ["point 5 1 2", "point 1 5 2", "point 4 5 2", "point 1 5", "point 9 1", "point 1 1 2 7"], "residue")
        self.behind(ahead, ["point 1 1", "point 1 1 2 3", "point 4 1", "point 4 1 2 3"], "places")
        self.behind(ahead, ["point 4 1 2", "point 4 0 0"], "same")
        # the same residue in another room
        self.same(len(read_bench(ahead + "points d 2 3\npoint 4 1 2\n").holding("d")), 1)

    def test_curves(self):
        ahead = "bench 5\nletters c 1\n"
        self.behind(ahead, ["curve d 1 0, 1", "curve d 1,1", "curve d x", "curve d -1, 0 1", "curve d 0 1, 01", "curve d 5 0, 1", "curve d 7, x"],
                    "form")
        self.behind(ahead, ["curve d 5, 1", "curve d 0 1, 9", "curve d 5", "curve d 7, 0 7"], "residue")
        self.behind(ahead, ["curve d 0 1", "curve d 1", "curve d 0", "curve d 0, 0", "curve d 1, 1", "curve d 0 1, 0 1", "curve d 0 1, 0"], "curve")
        self.same(read_bench(ahead + "curve d 1, 0 1\n").holding("d").degree, 1)

    def test_too_many(self):
        many = "bench 5\n" + "".join(f"letters {name} 1\n" for name in names(24))
        self.same(len(read_bench(many)), 24)
        self.behind(many, ["span z 0", "letters z 1", "points z 1 1", "curve z 0 1, 1", "curve z 1", "curve z 0, 0"], "many")
        self.behind(many, ["letters ax 1", "letters aa 4"], "order")
        self.behind(many, ["letters z 4", "points z 1 21"], "number")
        self.behind(many, ["curve z 5, 1"], "residue")
        columns = "bench 5\nletters a 1\ncolumn 3\nletters b 2\n" + "column 1 2\n" * 60
        self.same(len(read_bench(columns).holding("b")), 60)
        self.behind(columns, ["column 1 2"], "many")
        self.behind(columns, ["column 1"], "places")
        points = "bench 97\npoints a 1 1\n" + "".join(f"point {point} 0\n" for point in range(40))
        self.same(len(read_bench(points).holding("a")), 40)
        self.behind(points, ["point 40 1", "point 96 96"], "many")
        self.behind(points, ["point 39 1"], "same")
        self.behind(points, ["point 41 1 1"], "places")
        self.behind(points, ["point 97 1"], "residue")

    def test_last_lines(self):
        lines = TEXT.split("\n")
        for at in range(len(lines) - 1):
            ahead = "".join(line + "\n" for line in lines[:at])
            self.wrong(ahead + lines[at], at, "form")
            if at > 0:
                self.same(read_bench(ahead).prime, 5)
        self.wrong(TEXT + "\n", 11, "form")
        self.wrong(TEXT + " ", 11, "form")
        self.wrong("bench 6\nspan a 0", 0, "prime")
        self.wrong("\n", 0, "form")
        self.wrong("\n" + TEXT, 0, "form")

    def test_the_first_wrong_line_counts(self):
        self.wrong(TEXT.replace("row 2, 0 1", "row 2").replace("column 4", "column 5"), 3, "places")
        self.wrong(TEXT.replace("column 4", "column 5").replace("point 2", "point 4"), 5, "residue")
        self.wrong(TEXT.replace("point 2", "point 4").replace("curve d 1", "curve c 1"), 9, "same")
        self.wrong(TEXT.replace("curve d 1", "curve c 1"), 10, "order")

    def test_bent_texts(self):
        for at in range(len(TEXT)):
            for other in (TEXT[:at] + TEXT[at + 1:], TEXT[:at] + "x" + TEXT[at + 1:], TEXT[:at] + " " + TEXT[at:], TEXT[:at] + "7" + TEXT[at + 1:]):
                try:
                    bench = read_bench(other)
                except InvalidText as wrong:
                    self.assertLessEqual(wrong.line, other.count("\n"))
                else:
                    # what is read can be written and read again
                    self.same(read_bench(bench.text()) == bench, True)


class Played(Case):
    def test_journals_played_again(self):
        draw = drawing(692)
        for _ in range(15):
            bench = full_bench()
            for _ in range(30):
                try:
                    bench.do(*[drawn_deed(draw, bench) for _ in range(draw.randrange(1, 3))])
                except (FreeError, Missing):
                    pass
            journal = bench.journal()
            found = played_journal(prime=5, journal=journal)
            self.same([found == bench, found.text(), found.history(), found.journal()], [True, bench.text(), bench.history(), journal])
            self.same(played_journal(5, tuple(tuple(step) for step in journal)).journal(), journal)
            # steps that were undone do not stand in the journal
            bench.undo()
            self.same(played_journal(5, bench.journal()).text(), bench.text())

    def test_small_journals(self):
        self.same([played_journal(7, []) == Bench(7), played_journal(7, ()).history()], [True, (0, 0)])
        self.same(played_journal(5, [[], [SPAN], [], [CHANGES[0], CHANGES[2]]]).history(), (2, 0))

    def test_what_is_raised(self):
        for value in (6, True, None, "5", 10 ** 5000):
            self.raises(NotPrime, {"value": value}, played_journal, value, [[SPAN]])
        self.raises(InvalidDeed, {"at": 1}, played_journal, 5, [[SPAN], [CHANGES[0], None]])
        self.raises(UnknownName, {"name": "a"}, played_journal, 5, [[CHANGES[0]], [SPAN]])
        steps = [[("letters", "a", 1), ("drop", "a")]] * 60
        self.same(played_journal(5, steps).history(), (60, 0))
        self.raises(Full, {"most": 60}, played_journal, 5, steps + [[SPAN]])

    def test_drawn_spans_in_texts(self):
        draw = drawing(693)
        for _ in range(15):
            span = thin_span(draw)
            bench = Bench(span.prime)
            bench.do(("span", "s", span.lifts, span.key()), ("curve", "c", [(1,), drawn_form(draw, span.prime, 3) + (0, 1)]))
            self.same(read_bench(bench.text()).holding("s") == span, True)


if __name__ == "__main__":
    unittest.main()
