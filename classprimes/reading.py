"""Reading texts: the triple that a SUM tells, and the class that a PRODUCT tells."""

from classprimes.composing import composed, power
from classprimes.discriminants import is_discriminant
from classprimes.errors import BadText
from classprimes.forms import discriminant_of, first_form, is_form, reduced
from classprimes.words import words_of

PLACES = ("xx", "xy", "yy")


def form_told(text):
    """The FORM that the text, a SUM, tells."""
    reader = Reader(text, 0, len(text), {})
    triple = reader.read_sum()
    reader.take(("end",))
    if not is_form(triple):
        raise BadText(reader.words[0][2])
    return triple


def class_told(text, low, high, names):
    """The reduced form of the class that a PRODUCT, the text from low to high, tells."""
    reader = Reader(text, low, high, names)
    form = reader.read_product()
    reader.take(("end",))
    # What is wrong though each word can go on counts only once there are no other words.
    if len(reader.faults) > 0:
        raise BadText(min(reader.faults))
    return form


class Reader:
    """Goes through the words, and keeps the places of what is wrong though the words can go on.

    A class is told by its reduced form, by None if something is wrong in what tells it.
    """

    def __init__(self, text, low, high, names):
        self.words = words_of(text, low, high)
        self.names = names
        self.at = 0
        self.depth = 0
        self.faults = []

    def kind(self):
        """The kind of the word that comes next."""
        return self.words[self.at][0]

    def take(self, kinds):
        """The next word and its place; it has to be of one of these kinds."""
        kind, word, place = self.words[self.at]
        if kind not in kinds:
            raise BadText(place)
        self.at += 1
        return word, place

    def wrong(self, place):
        self.faults.append(place)

    def read_minus(self):
        """The sign: - 1 if a minus stands here, otherwise 1."""
        if self.kind() != "-":
            return 1
        self.take(("-",))
        return -1

    def read_sum(self):
        """The triple that a SUM tells."""
        numbers = {}
        self.read_part(self.read_minus(), numbers)
        # Behind three parts no other one can stand, so neither can its sign.
        while self.kind() in ("+", "-") and len(numbers) < 3:
            word, _ = self.take(("+", "-"))
            self.read_part(1 if word == "+" else -1, numbers)
        return tuple([numbers.get(place, 0) for place in PLACES])

    def read_part(self, sign, numbers):
        number = 1
        if self.kind() == "number":
            word, _ = self.take(("number",))
            number = int(word)
        free = [place for place in PLACES if place not in numbers]
        word, _ = self.take(free)
        numbers[word] = sign * number

    def read_product(self):
        """The class that a PRODUCT tells."""
        form = self.read_power()
        while self.kind() == "*":
            _, place = self.take(("*",))
            form = self.multiplied(form, self.read_power(), place)
        return form

    def multiplied(self, form, other, place):
        if form is None or other is None:
            return None
        if discriminant_of(form) != discriminant_of(other):
            self.wrong(place)
            return None
        return composed(form, other)

    def read_power(self):
        """The class that a POWER tells."""
        form = self.read_base()
        if self.kind() != "^":
            return form
        self.take(("^",))
        sign = self.read_minus()
        word, place = self.take(("number",))
        number = int(word)
        if number > 1000:
            self.wrong(place)
            return None
        return None if form is None else power(form, sign * number)

    def read_base(self):
        """The class that a BASE tells."""
        word, place = self.take(("[", "first", "name", "(") if self.depth < 12 else ("[", "first", "name"))
        if word == "[":
            return self.read_bracket(place)
        if word == "first":
            return self.read_first()
        if word == "(":
            return self.read_inner()
        if word not in self.names:
            self.wrong(place)
            return None
        return self.names[word]

    def read_bracket(self, place):
        """The class of the SUM behind the bracket at the place."""
        triple = self.read_sum()
        self.take(("]",))
        if not is_form(triple):
            self.wrong(place)
            return None
        return reduced(triple)

    def read_first(self):
        """The class of the first form of the discriminant in brackets."""
        self.take(("(",))
        self.take(("-",))
        word, place = self.take(("number",))
        self.take((")",))
        discriminant = -int(word)
        if not is_discriminant(discriminant):
            self.wrong(place)
            return None
        return first_form(discriminant)

    def read_inner(self):
        """The class of the PRODUCT in brackets."""
        self.depth += 1
        form = self.read_product()
        self.take((")",))
        self.depth -= 1
        return form
