"""The texts of benches, and journals that are played again."""

from freetops.bench import Bench, bench_of
from freetops.benchlines import BenchLines
from freetops.errors import InvalidText
from freetops.words import check_text


def write_bench(bench):
    """The text of a bench."""
    return bench.text()


def read_bench(text):
    """The bench with a text, without history and kept papers."""
    check_text(text)
    lines = text.split("\n")
    # what stands behind the last line feed is a last line that lacks its own
    behind = lines.pop()
    reader = BenchLines()
    for at, line in enumerate(lines):
        fault = reader.take(line)
        if fault is not None:
            raise InvalidText(at, fault)
    if behind != "":
        raise InvalidText(len(lines), "form")
    return bench_of(reader.prime, reader.holdings)


def played_journal(prime, journal):
    """A bench in which the steps of a journal were done, one call for each."""
    bench = Bench(prime)
    for step in journal:
        bench.do(*step)
    return bench
