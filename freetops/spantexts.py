"""The texts of spans."""

from freetops.errors import InvalidText
from freetops.formtexts import write_row
from freetops.numbers import is_prime
from freetops.words import check_text, is_signed_number, row_fault, row_in

FIRST_WORD = "span "
ROW_WORD = "row "


def span_text(prime, lifts, rows):
    """The text of a span with these key rows."""
    numbers = " ".join([str(number) for number in (prime, *lifts)])
    lines = [f"{FIRST_WORD}{numbers}\n"] + [f"{ROW_WORD}{write_row(row)}\n" for row in rows]
    return "".join(lines)


def span_parts(text):
    """The prime, the lifts and the rows that the text of a span names."""
    check_text(text)
    lines = text.split("\n")
    # what stands behind the last line feed is a last line that lacks its own
    behind = lines.pop()
    if not lines:
        raise InvalidText(0, "form")
    prime, lifts = _first_line(lines[0])
    rows = []
    for at, line in enumerate(lines):
        if at > 0:
            rows.append(_row_of_line(prime, len(lifts), at, line))
    if behind != "":
        raise InvalidText(len(lines), "form")
    return prime, lifts, rows


def _first_line(line):
    words = line.removeprefix(FIRST_WORD).split(" ")
    if not line.startswith(FIRST_WORD) or len(words) < 2:
        raise InvalidText(0, "form")
    if not all([is_signed_number(word) for word in words]):
        raise InvalidText(0, "form")
    prime, *lifts = [int(word) for word in words]
    if not is_prime(prime):
        raise InvalidText(0, "prime")
    return prime, tuple(lifts)


def _row_of_line(prime, places, at, line):
    if not line.startswith(ROW_WORD):
        raise InvalidText(at, "form")
    text = line.removeprefix(ROW_WORD)
    fault = row_fault(prime, text)
    if fault is not None:
        raise InvalidText(at, fault)
    row = row_in(text)
    if len(row) != places:
        raise InvalidText(at, "places")
    return row
