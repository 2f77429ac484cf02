"""What texts tell, in another way than the program's: a machine of states for the words, and Python's own reckoning."""

import math
import re

from classprimes.composing import composed, power

WORDS = re.compile(
    r"(?P<blank> +)|(?P<number>[0-9]+)|(?P<small>[a-z][a-z0-9]*)|(?P<mark>[-+*^()\[\]])|(?P<none>.)", re.DOTALL)
KEYS = ("xx", "xy", "yy")
# The state behind a word, by the state ahead of it and the word's kind.
STEPS = {
    ("base", "["): "sum", ("base", "first"): "first", ("base", "name"): "tail", ("base", "("): "base",
    ("sum", "-"): "part", ("sum", "number"): "key", ("sum", "key"): "parts",
    ("part", "number"): "key", ("part", "key"): "parts", ("key", "key"): "parts",
    ("parts", "+"): "part", ("parts", "-"): "part", ("parts", "]"): "tail",
    ("first", "("): "less", ("less", "-"): "size", ("size", "number"): "close", ("close", ")"): "tail",
    ("tail", "^"): "sign", ("sign", "-"): "count", ("sign", "number"): "closed", ("count", "number"): "closed",
    ("tail", "*"): "base", ("closed", "*"): "base", ("tail", ")"): "tail", ("closed", ")"): "tail",
}


def words_by_pattern(text):
    """Triples of kind, word and place; of blanks nothing."""
    found = []
    for match in WORDS.finditer(text):
        kind, word = match.lastgroup, match.group()
        if kind == "small":
            kind = "key" if word in KEYS else "first" if word == "first" else "name" if len(word) < 13 else "none"
        if kind == "number" and len(word) > 20:
            kind = "none"
        if kind == "mark":
            kind = word
        if kind != "blank":
            found.append((kind, word, match.start()))
    return found


def place_by_machine(text, start):
    """The place of the first word that cannot go on, or the end where words are missing; None if the text is right."""
    state, levels, used = start, 0, set()
    for kind, word, place in words_by_pattern(text):
        following = STEPS.get((state, kind))
        if state == "base" and kind == "(":
            levels += 1
        if state in ("tail", "closed") and kind == ")":
            levels -= 1
        if kind == "[":
            used = set()
        wrong = following is None or levels > 12 or levels < 0
        wrong = wrong or (kind == "key" and word in used) or (state == "parts" and kind in "+-" and len(used) == 3)
        if wrong or (kind == "]" and start == "sum"):
            return place
        if kind == "key":
            used.add(word)
        state = following
    if state in (("parts",) if start == "sum" else ("tail", "closed")) and levels == 0:
        return None
    return len(text)


def triple_by_pattern(text):
    """The triple of a SUM that is right."""
    numbers = dict.fromkeys(KEYS, 0)
    for sign, digits, key in re.findall(r"([-+]?) *([0-9]*) *(xx|xy|yy)", text):
        numbers[key] = int(sign + (digits or "1"))
    return tuple(numbers.values())


def is_form_by_hand(triple):
    a, b, c = triple
    size = 4 * a * c - b * b
    return a > 0 and 3 <= size <= 400 and math.gcd(a, b, c) == 1


class Told:
    """A class, told by a FORM of it, or None; it takes part in Python's own * and **."""

    def __init__(self, faults, form, wrong_at=None):
        self.faults, self.form = faults, form
        if wrong_at is not None:
            faults.append(wrong_at)
            self.form = None

    def __mul__(self, other):
        if isinstance(other, int):
            return Half(self, other)
        raise AssertionError(other)

    def __pow__(self, exponent):
        number, place = exponent
        if number > 1000 or number < -1000:
            return Told(self.faults, None, place)
        return Told(self.faults, None if self.form is None else power(self.form, number))


class Half:
    """A class and the place of the * behind it."""

    def __init__(self, told, place):
        self.told, self.place = told, place

    def __mul__(self, other):
        one, two, faults = self.told.form, other.form, self.told.faults
        if one is None or two is None:
            return Told(faults, None)
        if one[1] ** 2 - 4 * one[0] * one[2] != two[1] ** 2 - 4 * two[0] * two[2]:
            return Told(faults, None, self.place)
        return Told(faults, composed(one, two))


def told_by_python(text, names):
    """The FORM that a PRODUCT tells whose words can all go on, or None, and the places of what is wrong."""
    faults, pieces, values = [], [], []
    words = words_by_pattern(text)
    at = 0

    def keep(value):
        values.append(value)
        pieces.append(f"values[{len(values) - 1}]")

    while at < len(words):
        kind, word, place = words[at]
        if kind == "[":
            end = text.index("]", place)
            triple = triple_by_pattern(text[place:end])
            keep(Told(faults, triple, None if is_form_by_hand(triple) else place))
            at = next(index for index, each in enumerate(words) if each[2] == end)
        elif kind == "first":
            size, where = int(words[at + 3][1]), words[at + 3][2]
            good = 3 <= size <= 400 and size % 4 in (0, 3)
            keep(Told(faults, (1, size % 2, (size + size % 2) // 4), None if good else where))
            at += 4
        elif kind == "name":
            keep(Told(faults, names.get(word), None if word in names else place))
        elif kind == "^":
            sign = -1 if words[at + 1][0] == "-" else 1
            at += 2 if sign < 0 else 1
            pieces.append("**")
            keep((sign * int(words[at][1]), words[at][2]))
        elif kind == "*":
            pieces.append(f"* {place} *")
        else:
            pieces.append(word)
        at += 1
    return eval(" ".join(pieces), {"values": values}).form, faults


def outcome_by_machine(text, names):
    """The FORM of the class that a PRODUCT tells, or the place of what is wrong in it."""
    place = place_by_machine(text, "base")
    if place is not None:
        return place
    form, faults = told_by_python(text, names)
    return min(faults) if faults else form
