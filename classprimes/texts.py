"""The texts of forms, and what texts tell."""

from classprimes.errors import BadText
from classprimes.forms import check_form
from classprimes.reading import class_told, form_told


def form_text(form):
    """The text of the form."""
    check_form(form)
    a, b, c = form
    return part_text(a, "xx") + signed_text(b, "xy") + signed_text(c, "yy")


def signed_text(number, word):
    """The part with its sign and the blanks around it; nothing for 0."""
    if number == 0:
        return ""
    sign = "+" if number > 0 else "-"
    return f" {sign} {part_text(abs(number), word)}"


def part_text(number, word):
    return word if number == 1 else f"{number}{word}"


def check_text(text):
    if not isinstance(text, str):
        raise BadText(None)


def read_form(text):
    """The FORM that a SUM tells."""
    check_text(text)
    return form_told(text)


def read_product(text):
    """The reduced form of the class that a PRODUCT tells, no names being told."""
    check_text(text)
    return class_told(text, 0, len(text), {})
