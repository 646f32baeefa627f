"""The texts of forms and rows."""

from freetops.errors import InvalidText
from freetops.words import check_text, form_fault, form_in, row_fault, row_in


def write_form(form):
    """The text of a form."""
    if not form:
        return "0"
    return " ".join([str(residue) for residue in form])


def write_row(row):
    """The text of a row."""
    return ", ".join([write_form(form) for form in row])


def read_form(prime, text):
    """The form with a text."""
    check_text(text)
    fault = form_fault(prime, text)
    if fault is not None:
        raise InvalidText(0, fault)
    return form_in(text)


def read_row(prime, text):
    """The row of one or more places with a text."""
    check_text(text)
    fault = row_fault(prime, text)
    if fault is not None:
        raise InvalidText(0, fault)
    return row_in(text)
