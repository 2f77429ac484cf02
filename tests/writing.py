"""Writing texts by chance, always the same ones: PRODUCTs, right and wrong."""

import random

from tests.common import REDUCED

DISCRIMINANTS = (-23, -23, -23, -56, -47, -20, -84)
NAMES = {"f": (2, 1, 3), "g": (2, -1, 3), "one": (1, 1, 6), "h7": (3, 2, 5), "a": (2, 2, 3), "zzzzzzzzzzzz": (1, 0, 5)}
SIGNS = [
    "+", "-", "*", "^", "(", ")", "[", "]", "xx", "xy", "yy", "first", "f", "g", "nope", "0", "1", "23", "2000",
    "9" * 20, "9" * 21, "abcdefghijkl", "abcdefghijklm", "=", "F", "$", "\t", "\n", "\u00b2", "\u0663", "\u00e9", "/",
    "."]


class Writer:
    def __init__(self, seed):
        self.chance = random.Random(seed)

    def some(self, share):
        return self.chance.random() < share

    def sum_words(self, discriminant):
        """The words of a SUM of this discriminant, seldom of none."""
        a, b, c = self.chance.choice(REDUCED[discriminant])
        step = self.chance.randint(-3, 3)
        triple = [a, b + 2 * a * step, a * step * step + b * step + c]
        if self.some(0.1):
            triple[self.chance.randrange(3)] += 1
        parts = [(number, key) for number, key in zip(triple, ("xx", "xy", "yy")) if number or self.some(0.3)]
        self.chance.shuffle(parts)
        words = []
        for number, key in parts:
            if number < 0 or words:
                words.append("-" if number < 0 else "+")
            if abs(number) != 1 or self.some(0.2):
                words.append("0" * self.chance.choice((0, 0, 0, 1, 5)) + str(abs(number)))
            words.append(key)
        return words

    def base_words(self, depth, discriminant):
        kind = self.chance.random()
        if kind < 0.35 or depth == 0 and kind > 0.75:
            return ["[", *self.sum_words(discriminant), "]"]
        if kind < 0.5:
            return ["first", "(", "-", str(-discriminant if self.some(0.8) else self.chance.randint(0, 450)), ")"]
        if kind < 0.75:
            return [self.chance.choice([*NAMES, "nope"] if self.some(0.2) else ["f", "g", "one"])]
        return ["(", *self.product_words(depth - 1, discriminant), ")"]

    def power_words(self, depth, discriminant):
        words = self.base_words(depth, discriminant)
        if self.some(0.3):
            number = self.chance.choice((0, 1, 2, 3, 1000, 1001, self.chance.randint(0, 1100)))
            words += ["^"] + ["-"] * self.some(0.4) + ["0" * self.some(0.2) + str(number)]
        return words

    def product_words(self, depth, discriminant):
        words = self.power_words(depth, discriminant)
        while self.some(0.4):
            words.append("*")
            words += self.power_words(depth, discriminant if self.some(0.85) else self.chance.choice(DISCRIMINANTS))
        return words

    def joined(self, words):
        """The text; blanks stand where they have to, and by chance."""
        text = " " * self.chance.choice((0, 0, 1, 3))
        for at, word in enumerate(words):
            ahead = words[at - 1][-1] if at else " "
            if ahead.isalnum() and ahead.isascii() and word[0].isalnum() and word[0].isascii() and (
                    word[0].isdigit() or ahead.isalpha() or self.some(0.5)):
                text += " "
            text += word + " " * self.chance.choice((0, 0, 0, 1, 2))
        return text

    def spoilt(self, words):
        """The words with one left out, put in, told twice, exchanged, or the last ones left out."""
        words = list(words)
        at = self.chance.randrange(len(words))
        way = self.chance.randrange(6)
        if way == 0:
            del words[at]
        elif way == 1:
            words.insert(at, self.chance.choice(SIGNS))
        elif way == 2:
            words.insert(at, words[at])
        elif way == 3:
            words[at] = self.chance.choice(SIGNS)
        elif way == 4:
            other = self.chance.randrange(len(words))
            words[at], words[other] = words[other], words[at]
        else:
            del words[at:]
        return words
