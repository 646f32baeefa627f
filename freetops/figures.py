"""Forms told by numbers: the figures of a number in base p are their residues, form after form."""

from freetops.forms import form_of
from freetops.numbers import is_any_number


def forms_of_number(prime, value, lengths):
    """The forms, each of at most as many residues as its length says, that a number stands for.

    None for any value that is no such number.
    """
    if not is_any_number(value) or value < 0:
        return None
    number = value
    forms = []
    for length in lengths:
        figures = []
        while number > 0 and len(figures) < length:
            figures.append(number % prime)
            number = number // prime
        forms.append(form_of(prime, figures))
    if number > 0:
        return None
    return tuple(forms)


def number_of_forms(prime, forms, lengths):
    """The number that stands for forms, each of at most as many residues as its length says."""
    number = 0
    for form, length in reversed(list(zip(forms, lengths))):
        # lengths may be great, so figures that are 0 do not count as long as there is nothing above them
        if number > 0:
            for _ in range(length - len(form)):
                number = number * prime
        for residue in reversed(form):
            number = number * prime + residue
    return number
