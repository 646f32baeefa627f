import unittest

from cases import Case, drawing, full_span, thin_span
from freetops.answers import answers
from freetops.bench import Bench
from freetops.errors import TooMany
from freetops.formtexts import write_row
from test_bench import CHANGES, ROWS, full_bench, state
from test_curves import drawn_curve
from test_papers import bench_with, deeds_of
from test_points import HEARD, drawn_room


def points_bench(room):
    return bench_with(room.prime, ("points", "p", room.width, room.bound), *[("point", "p", *pair) for pair in room.heard()])


class Lines(Case):
    def told(self, bench, line, answer):
        """The answer to a line, by each of the two ways, which are written down and change nothing else."""
        before, log = bench.text(), bench.log()
        self.same([bench.say(line=line), bench(line=line), bench.text()], [answer, answer, before])
        self.same(bench.log(), log + [(line, answer)] * 2)

    def test_example(self):
        bench = Bench(5)
        bench.do(("span", "a", (0, 0), ROWS), ("letters", "b", 1), ("column", "b", (0,)))
        self.same([bench("heights a"), bench("rest a 0 0 0 0 1, 0"), bench("order b"), bench("order a"), bench.history()],
                  ["1 1", "1, 0", "0", "error WrongKind", (1, 0)])

    def test_names_and_kinds(self):
        self.told(Bench(5), "names", "none")
        bench = full_bench()
        self.told(bench, "names", "a b c d")
        for name, kind in zip("abcd", ("span", "letters", "points", "curve")):
            self.told(bench, f"kind {name}", kind)
        bench.do(("letters", "none", 1), ("drop", "b"))
        self.told(bench, "names", "a c d none")

    def test_heights(self):
        bench = full_bench()
        bench.do(*CHANGES, ("span", "n", (0, 3), ()))
        for name in "abc":
            self.told(bench, f"heights {name}", " ".join(str(height) for height in bench.holding(name).heights))
        self.told(bench, "heights d", "1 1")
        self.told(bench, "heights n", "none")
        draw = drawing(681)
        for _ in range(10):
            span, curve = thin_span(draw, (5,)), drawn_curve(draw, (5,))
            other = bench_with(5, *deeds_of("s", span), *deeds_of("c", curve))
            self.told(other, "heights s", " ".join(str(height) for height in span.heights) or "none")
            self.told(other, "heights c", " ".join(str(height) for height in curve.lines().heights))

    def test_sizes(self):
        bench = full_bench()
        bench.do(("span", "n", (0, 3), ()), ("span", "w", (-7,), [((1,),)]))
        for line, answer in (("size a", "2"), ("size n", "none"), ("size w", "0"), ("size b", "error WrongKind"),
                             ("size c", "error WrongKind"), ("size d", "error WrongKind"), ("size e", "error UnknownName")):
            self.told(bench, line, answer)

    def test_rests(self):
        draw = drawing(682)
        for _ in range(20):
            span = full_span(draw, places=draw.randrange(1, 4))
            bench = bench_with(span.prime, *deeds_of("s", span))
            row = full_span(draw, (span.prime,), places=span.places).key()[0]
            self.told(bench, f"rest s {write_row(row)}", write_row(span.rest_of(row)))
        bench = full_bench()
        for line, answer in (("rest a 0, 0", "0, 0"), ("rest a 0 1, 3", "0, 0"), ("rest a 5, 0", "error InvalidText"),
                             ("rest a x", "error InvalidText"), ("rest a 1", "error InvalidRow"), ("rest a 1, 1, 1", "error InvalidRow"),
                             ("rest a 1,1", "error InvalidText"), ("rest a  1, 1", "error InvalidText"), ("rest a 1, 1 ", "error InvalidText"),
                             ("rest a  ", "error InvalidText"), ("rest a -1, 0", "error InvalidText"), ("rest a 7", "error InvalidText"),
                             ("rest e x", "error UnknownName"), ("rest b x", "error WrongKind"), ("rest c 1", "error WrongKind"),
                             ("rest d 1, 1", "error WrongKind"), ("rest a ", "unknown"), ("rest a", "unknown"), ("rest", "unknown"),
                             ("rest  1, 1", "unknown"), ("rest a 1, 1\n", "unknown")):
            self.told(bench, line, answer)

    def test_orders(self):
        bench = full_bench()
        bench.do(*[("column", "b", (letter,)) for letter in (1, 1, 2, 3, 0, 3, 3, 1)])
        for line, answer in (("order b", "2"), ("order a", "error WrongKind"), ("order c", "error WrongKind"),
                             ("order d", "error WrongKind"), ("order e", "error UnknownName"), ("order b 1", "unknown")):
            self.told(bench, line, answer)

    def test_answers(self):
        draw = drawing(683)
        many = 0
        for _ in range(20):
            room = drawn_room(draw, (5, 7), 7, None, 2, 1)
            bench = points_bench(room)
            for faults in (0, 1, 2, 999999999):
                try:
                    self.told(bench, f"answers p {faults}", str(len(answers(room, faults=faults))))
                except TooMany:
                    self.told(bench, f"answers p {faults}", "error TooMany")
                    many += 1
        self.assertGreater(many, 10)
        bench = bench_with(7, ("points", "p", 2, 2), *[("point", "p", *pair) for pair in HEARD], ("letters", "b", 1))
        for line, answer in (("answers p 2", "0"), ("answers p 3", "1"), ("answers p 0", "0"), ("answers p 03", "unknown"),
                             ("answers p 00", "unknown"), ("answers p -1", "unknown"), ("answers p 1234567890", "unknown"),
                             ("answers p", "unknown"), ("answers p 3 ", "unknown"), ("answers p  3", "unknown"), ("answers p x", "unknown"),
                             ("answers p 3 3", "unknown"), ("answers p ", "unknown"), ("answers e 03", "unknown"),
                             ("answers e 3", "error UnknownName"), ("answers b 3", "error WrongKind"), ("answers p +3", "unknown")):
            self.told(bench, line, answer)

    def test_unknown_names(self):
        bench = full_bench()
        for name in ("e", "aa", "A", "a1", "abcdefgh", "a,", "none", "-", "5"):
            for line in (f"kind {name}", f"heights {name}", f"size {name}", f"order {name}", f"answers {name} 0", f"rest {name} ?"):
                self.told(bench, line, "error UnknownName")

    def test_unknown_lines(self):
        bench = full_bench()
        for line in ("", " ", "  ", "x", "names ", " names", "names a", "Names", "kind", "kind ", "kind  a", " kind a", "kind a ",
                     "kind a b", "kind\na", "kind a\n", "heights", "heights a b", "heights  a", "size", "size a b", "order", "order b 1",
                     "undo ", " undo", "undo a", "redo ", "redo redo", "Undo", "done", "none", "text", "log", "rows a", "a", "span a",
                     "names\n", "undo\n", "\n", "heights a\nheights b"):
            self.told(bench, line, "unknown")

    def test_undo_and_redo(self):
        bench = full_bench()
        bench.do(CHANGES[0])
        texts = [full_bench().text(), bench.text()]
        self.same([bench("redo"), bench.say("undo"), bench.text(), bench.history()], ["error NothingLeft", "done", texts[0], (1, 1)])
        self.same([bench("undo"), bench("undo"), bench("redo"), bench("redo"), bench("redo")],
                  ["done", "error NothingLeft", "done", "done", "error NothingLeft"])
        self.same([bench.text(), bench.history()], [texts[1], (2, 0)])
        bench.begin_draft()
        before = state(bench)[:-3]
        self.same([bench("undo"), bench("redo"), state(bench)[:-3]], ["error InDraft", "error InDraft", before])
        bench.give_up()
        self.same(bench.log(), [("redo", "error NothingLeft"), ("undo", "done"), ("undo", "done"), ("undo", "error NothingLeft"),
                                ("redo", "done"), ("redo", "done"), ("redo", "error NothingLeft"), ("undo", "error InDraft"),
                                ("redo", "error InDraft")])

    def test_lines_see_the_draft(self):
        bench = full_bench()
        bench.begin_draft()
        bench.do(("drop", "a"))
        self.told(bench, "names", "b c d")
        self.told(bench, "size a", "error UnknownName")
        bench.give_up()
        self.told(bench, "size a", "2")

    def test_logs(self):
        bench = full_bench()
        bench("names")
        bench.say("")
        bench("kind q")
        wanted = [("names", "a b c d"), ("", "unknown"), ("kind q", "error UnknownName")]
        self.same(bench.log(), wanted)
        bench.log().clear()
        bench.undo()
        bench.tried(("letters", "e", 1))
        self.same([bench.log(), bench.history()], [wanted, (0, 1)])


if __name__ == "__main__":
    unittest.main()
