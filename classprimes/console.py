"""The console: a desk that keeps names of classes and answers lines."""

from classprimes.answers import ARGUMENTS, answer_by_numbers, argument_told, numbers_text, yes_or_no
from classprimes.composing import order_of
from classprimes.errors import BadText, InvalidLines
from classprimes.genera import residues_of
from classprimes.reading import class_told
from classprimes.texts import form_text
from classprimes.values import solutions
from classprimes.words import is_name


def run(lines):
    """The answers of a new desk to the lines."""
    if not isinstance(lines, tuple) or len(lines) > 200:
        raise InvalidLines(None)
    for index, line in enumerate(lines):
        if not isinstance(line, str):
            raise InvalidLines(index)
    desk = Desk()
    return tuple([desk.answer(line) for line in lines])


class Desk:
    """Keeps up to 20 names with the reduced forms of classes, and what they were ahead of each let."""

    def __init__(self):
        self.names = {}
        self.past = []

    def answer(self, line):
        words = [word for word in line.split(" ") if len(word) > 0]
        if len(words) == 0:
            return ""
        if words[0] in ARGUMENTS:
            return answer_by_numbers(words)
        if words == ["undo"]:
            return self.undo()
        if len(words) == 1:
            return "?"
        try:
            return self.answer_by_classes(words, line)
        except BadText as wrong:
            return f"BadText {wrong.spot}"

    def answer_by_classes(self, words, line):
        """The answer to a line of a command of PRODUCTs, with something behind the command's word."""
        behind = line.find(words[0]) + len(words[0])
        if words[0] == "let":
            return self.let(line, behind)
        if words[0] == "same":
            return self.same(line, behind)
        if words[0] == "takes":
            return self.takes(words, line, behind)
        if words[0] == "value":
            return form_text(self.class_in(line, behind, len(line)))
        if words[0] == "order":
            return str(order_of(self.class_in(line, behind, len(line))))
        if words[0] == "residues":
            return numbers_text(residues_of(self.class_in(line, behind, len(line))))
        return "?"

    def class_in(self, line, low, high):
        """The reduced form of the class that the PRODUCT from low to high tells."""
        return class_told(line, low, high, self.names)

    def let(self, line, behind):
        equals = line.find("=")
        if equals < 0:
            return "?"
        name = line[behind:equals].strip(" ")
        if not is_name(name):
            return "?"
        form = self.class_in(line, equals + 1, len(line))
        if name not in self.names and len(self.names) == 20:
            return "full"
        self.past.append(dict(self.names))
        self.names[name] = form
        return form_text(form)

    def undo(self):
        if len(self.past) == 0:
            return "nothing there"
        self.names = self.past.pop()
        return f"{len(self.names)} names"

    def same(self, line, behind):
        if line.count("=") != 1:
            return "?"
        equals = line.find("=")
        form = self.class_in(line, behind, equals)
        return yes_or_no(form == self.class_in(line, equals + 1, len(line)))

    def takes(self, words, line, behind):
        prime = argument_told(words[1], "P")
        if prime is None or len(words) == 2:
            return "?"
        behind_prime = line.find(words[1], behind) + len(words[1])
        pairs = solutions(self.class_in(line, behind_prime, len(line)), prime)
        return numbers_text(pairs[-1]) if len(pairs) > 0 else "no"
