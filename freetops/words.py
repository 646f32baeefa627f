"""Words of texts: which numbers, forms and rows may stand there, and what they are."""

from freetops.errors import InvalidText

FIGURES = "0123456789"
MOST_FIGURES = 9


def check_text(text):
    """Raises for a value that is no string, and for the empty string."""
    if not isinstance(text, str):
        raise InvalidText(0, "form")
    if text == "":
        raise InvalidText(0, "missing")


def is_plain_number(word):
    """Whether a word is a number of at most 9 digits without a minus sign or leading zeros."""
    if not 1 <= len(word) <= MOST_FIGURES or not all([figure in FIGURES for figure in word]):
        return False
    return word == "0" or word[0] != "0"


def is_signed_number(word):
    """Whether a word is such a number, or one other than 0 with a minus sign ahead."""
    if word.startswith("-"):
        return word != "-0" and is_plain_number(word[1:])
    return is_plain_number(word)


def with_spaces(numbers):
    """The text of some numbers, with single spaces between."""
    return " ".join([str(number) for number in numbers])


def form_fault(prime, text):
    """What is wrong with the text of a form: the word form or residue; None if nothing is."""
    words = text.split(" ")
    if not all([is_plain_number(word) for word in words]) or (len(words) > 1 and words[-1] == "0"):
        return "form"
    if not all([int(word) < prime for word in words]):
        return "residue"
    return None


def row_fault(prime, text):
    """What is wrong with the text of a row: the word form or residue; None if nothing is."""
    faults = [form_fault(prime, part) for part in text.split(", ")]
    if "form" in faults:
        return "form"
    if "residue" in faults:
        return "residue"
    return None


def form_in(text):
    """The form with a right text."""
    if text == "0":
        return ()
    return tuple([int(word) for word in text.split(" ")])


def row_in(text):
    """The row with a right text."""
    return tuple([form_in(part) for part in text.split(", ")])
