"""The text of a bench: a line for the prime, and the lines of each holding."""

from freetops.deeds import kind_name
from freetops.formtexts import write_row
from freetops.words import with_spaces


def bench_text(prime, holdings):
    """The text of a bench with these holdings."""
    lines = [f"bench {prime}\n"]
    for name in sorted(holdings):
        lines = lines + _holding_lines(name, holdings[name])
    return "".join(lines)


def _holding_lines(name, holding):
    kind = kind_name(holding)
    if kind == "span":
        return [f"span {name} {with_spaces(holding.lifts)}\n"] + [f"row {write_row(row)}\n" for row in holding.key()]
    if kind == "letters":
        lines = [f"column {with_spaces(column)}\n" for column in holding.columns()]
        return [f"letters {name} {holding.width}\n"] + lines
    if kind == "points":
        lines = [f"point {point} {with_spaces(column)}\n" for point, column in holding.heard()]
        return [f"points {name} {holding.width} {holding.bound}\n"] + lines
    return [f"curve {name} {write_row(holding.forms)}\n"]
