"""Texts: what they tell, and what is wrong in them (points 19, 20 and 21)."""

import itertools
import unittest

from classprimes.composing import composed, power
from classprimes.errors import BadText, InvalidForm
from classprimes.reading import class_told
from classprimes.texts import form_text, read_form, read_product
from tests.by_machine import is_form_by_hand, outcome_by_machine, place_by_machine, triple_by_pattern
from tests.common import (
    ALL_REDUCED, CHANGES, GREAT, GREAT_CHANGES, NO_FORMS, NO_NUMBERS, REDUCED, changed_by_hand, first_by_hand, nested,
    reduced_by_hand)
from tests.writing import NAMES, Writer

NO_TEXTS = [value for value in NO_NUMBERS if type(value) is not str] + [
    0, 1, -23, GREAT, ["xx"], ("xx + xy + 6yy",), b"xx + xy + 6yy", nested(list, 29)]


def text_by_hand(form):
    a, b, c = form
    words = [f"{a}xx", f"{b}xy" if b else "", f"{c}yy"]
    text = "".join("+" + word if word and word[0] != "-" else word for word in words)
    for key in ("xx", "xy", "yy"):
        for sign in "+-":
            text = text.replace(f"{sign}1{key}", f"{sign}{key}")
    return text[1:].replace("+", " + ").replace("-", " - ")


class BadTextTest(unittest.TestCase):
    def check_place(self, function, text, place):
        for call in (lambda: function(text), lambda: function(text=text)):
            with self.assertRaises(BadText) as caught:
                told = call()
                self.fail((text, place, told))
            self.assertIs(type(caught.exception), BadText)
            self.assertEqual(repr(caught.exception.spot), repr(place), text)


class ExamplesTest(BadTextTest):
    def test_texts(self):
        self.assertEqual(
            repr([form_text((2, -2, 3)), form_text((1, 0, 14)), form_text((1, 1, 6)), read_form("6yy + xx - 3xy"),
                  read_product("[2xx+xy+3yy]^2"), read_product("first(-23)*[xx + 5xy + 12yy]"),
                  read_product("([2xx+xy+3yy] * [2xx - xy + 3yy])^-5")]),
            "['2xx - 2xy + 3yy', 'xx + 14yy', 'xx + xy + 6yy', (1, -3, 6), (2, -1, 3), (1, 1, 6), (1, 1, 6)]")

    def test_unlike_discriminants(self):
        self.check_place(read_product, "[xx+xy+6yy]*[xx+5yy]", 11)


class FormTextTest(BadTextTest):
    def test_all_reduced_forms(self):
        for form in ALL_REDUCED:
            self.assertEqual(repr(form_text(form)), repr(text_by_hand(form)))
            self.assertEqual(repr(read_form(form_text(form))), repr(form))

    def test_read_back(self):
        for form in ((1, 0, 1), (1, 1, 1), (2, 1, 3), (3, -2, 5), (10, 10, 11), (1, 1, 100)):
            for change in CHANGES:
                great = changed_by_hand(form, change)
                text = form_text(form=great)
                self.assertEqual(text, text_by_hand(great))
                if max(abs(number) for number in great) < 10 ** 20:
                    self.assertEqual(read_form(text), great)
                    self.assertEqual(read_product(f"[{text}]"), form)
                else:
                    place = place_by_machine(text, "sum")
                    self.check_place(read_form, text, place)
                    self.check_place(read_product, f"[{text}]", place + 1)

    def test_ones_and_noughts(self):
        self.assertEqual(
            [form_text((1, 0, 1)), form_text((1, -1, 1)), form_text((5, 1, 1)), form_text((6, -11, 10 + 1)),
             form_text((41, -11, 1)), form_text((1, 20, 101)), form_text((21, 1, 2))],
            ["xx + yy", "xx - xy + yy", "5xx + xy + yy", "6xx - 11xy + 11yy", "41xx - 11xy + yy",
             "xx + 20xy + 101yy", "21xx + xy + 2yy"])

    def test_great_numbers(self):
        for change in GREAT_CHANGES:
            great = changed_by_hand((2, 1, 3), change)
            a, b, c = great
            self.assertEqual(form_text(great), f"{a}xx {'+' if b > 0 else '-'} {abs(b)}xy + {c}yy")

    def test_refusals(self):
        for wrong in NO_FORMS:
            with self.assertRaises(InvalidForm) as caught:
                form_text(wrong)
            self.assertIs(caught.exception.given, wrong)


class ReadFormTest(BadTextTest):
    def test_parts_in_any_order(self):
        for parts in itertools.permutations(("2xx", "-3xy", "4yy")):
            for join in ("", " ", "   "):
                text = join.join(part if part[0] == "-" else "+" + part for part in parts)
                text = text[1:] if text[0] == "+" else text
                self.assertEqual(repr(read_form(text)), "(2, -3, 4)")
                self.assertEqual(read_form(f"  {text} "), (2, -3, 4))
                self.assertEqual(read_form(text.replace("-3", "- 3").replace("xy", "  xy")), (2, -3, 4))

    def test_noughts(self):
        self.assertEqual(
            [read_form("00xy + xx + 14yy"), read_form("xx - 0xy + 014yy"), read_form("0" * 19 + "1xx+5yy"),
             read_form("1xx+1xy+1yy"), read_form("-0xy+xx+yy"), read_form("+xx"[1:] + "+5yy")],
            [(1, 0, 14), (1, 0, 14), (1, 0, 5), (1, 1, 1), (1, 0, 1), (1, 0, 5)])

    def test_numbers_of_1_to_21_digits(self):
        for count in range(1, 20):
            b = 2 * 10 ** (count - 1)
            c = b * b // 4 + 5
            text = f"xx + {b}xy + {c}yy"
            if len(str(c)) < 21:
                self.assertEqual(read_form(text), (1, b, c))
            else:
                self.check_place(read_form, text, text.index(str(c)))
        for count in range(1, 21):
            self.assertEqual(read_form("7" .zfill(count) + "xx+xy+3yy"), (7, 1, 3))
            self.check_place(read_form, "9" * count + "yy", 0)
            self.check_place(read_form, "- " + "9" * count + "yy", 0)
        self.check_place(read_form, "7".zfill(21) + "xx+xy+3yy", 0)
        self.check_place(read_form, "xx + " + "0" * 21 + "xy+3yy", 5)
        self.check_place(read_form, "xx + " + "0" * 1000, 5)

    def test_sums_that_tell_no_form(self):
        for text, place in (("2xx+2xy+2yy", 0), ("xx", 0), ("  xx", 2), ("  -xx", 2), ("yy", 0), ("xy", 0), ("-xy", 0),
                            (" - xx - xy - 6yy", 1), ("xx-yy", 0), ("0xx", 0), ("  7xy + xx + yy", 2), ("xx+101yy", 0),
                            ("2xx+2yy", 0), ("xx + 2xy + yy", 0), ("-2xx + xy - 3yy", 0)):
            self.check_place(read_form, text, place)
        self.assertEqual(read_form("xx+100yy"), (1, 0, 100))

    def test_words_that_cannot_go_on(self):
        for text, place in (
                ("", 0), ("    ", 4), ("xx + ", 5), ("xx +", 4), ("3", 1), ("3 ", 2), ("-", 1), ("- ", 2), ("+xx", 0),
                ("--xx", 1), ("xx+-yy", 3), ("xx xx", 3), ("xxxx", 0), ("xx + xx", 5), ("xx+xy+yy+", 8),
                ("xx+xy+yy-xx", 8), ("xx+xy+yy xx", 9), ("xx 3", 3), ("3 3xx", 2), ("x", 0), ("xy2", 0), ("xx2+yy", 0),
                ("first", 0), ("f", 0), ("(xx)", 0), ("[xx+yy]", 0), ("xx+yy]", 5), ("xx*yy", 2), ("xx^2", 2),
                ("XX+yy", 0), ("xx+5yY", 4), ("xx+5yy\n", 6), ("xx\t+5yy", 2), ("xx+\u00a05yy", 3),
                ("xx+\u06635yy", 3), ("xx+5\u00b2yy", 4), ("xx + 5 zz", 7), ("2xx + 3xx + $", 7), ("$xx xx", 0),
                ("xx + 3.5yy", 6), ("xx + " + "1" * 21 + "xx", 5), ("xx + abcdefghijklm", 5), ("1xx+2xy3yy", 5),
                ("2xx+", 4), ("2xx+ 3", 6), ("xx=yy", 2)):
            self.assertEqual(place_by_machine(text, "sum"), place, text)
            self.check_place(read_form, text, place)

    def test_spoilt_sums(self):
        for seed in range(4000):
            writer = Writer(seed)
            words = writer.sum_words(writer.chance.choice((-23, -56, -84)))
            if words and seed % 4:
                words = writer.spoilt(words)
            text = writer.joined(words)
            place = place_by_machine(text, "sum")
            triple = triple_by_pattern(text)
            if place is None and is_form_by_hand(triple):
                self.assertEqual(repr(read_form(text)), repr(triple))
            else:
                first = len(text) - len(text.lstrip(" "))
                self.check_place(read_form, text, first if place is None else place)

    def test_what_is_no_text(self):
        for function in (read_form, read_product):
            for wrong in NO_TEXTS:
                self.check_place(function, wrong, None)


class ReadProductTest(BadTextTest):
    def test_forms(self):
        for form in ALL_REDUCED[::7]:
            for change in CHANGES[::29]:
                great = changed_by_hand(form, change)
                if max(abs(number) for number in great) < 10 ** 20:
                    self.assertEqual(repr(read_product(f"[{text_by_hand(great)}]")), repr(form))

    def test_first_forms(self):
        for discriminant in REDUCED:
            self.assertEqual(read_product(f"first(-{-discriminant})"), first_by_hand(discriminant))
            self.assertEqual(read_product(f" first ( - 000{-discriminant} ) "), first_by_hand(discriminant))

    def test_products(self):
        for discriminant in (-23, -56, -84, -399):
            for form in REDUCED[discriminant]:
                for other in REDUCED[discriminant]:
                    one, two = f"[{text_by_hand(form)}]", f"[{text_by_hand(other)}]"
                    product = composed(form, other)
                    self.assertEqual(read_product(f"{one}*{two}"), product)
                    self.assertEqual(read_product(f"(({one}) * {two}) * first(-{-discriminant})"), product)
                    self.assertEqual(read_product(f"{one}*{two}*{one}"), composed(product, form))
                    self.assertEqual(read_product(f"{one}*({two}*{one})"), composed(product, form))
                    inverse = reduced_by_hand((product[0], -product[1], product[2]))
                    self.assertEqual(read_product(f"({one}*{two})^-1"), inverse)

    def test_powers(self):
        for form in ((2, 1, 3), (3, 2, 5), (2, 1, 6), (2, 2, 3), (5, 1, 20), (1, 0, 1)):
            text = f"[{text_by_hand(form)}]"
            for count in (*range(12), 19, 998, 999, 1000):
                self.assertEqual(read_product(f"{text}^{count}"), power(form, count))
                self.assertEqual(read_product(f"{text} ^ - {count}"), power(form, -count))
                self.assertEqual(read_product(f"{text}^-{str(count).zfill(20)}"), power(form, -count))
            self.assertEqual(read_product(f"({text}^2)^3"), power(form, 6))
            # A power belongs to what stands directly ahead of it.
            self.assertEqual(read_product(f"{text}*{text}^2"), power(form, 3))
            self.assertEqual(read_product(f"{text}^2*{text}"), power(form, 3))

    def test_words_that_cannot_go_on(self):
        one = "[xx+xy+6yy]"
        for text, place in (
                ("", 0), ("   ", 3), ("[", 1), ("[]", 1), ("[xx+yy", 6), ("[xx+yy]]", 7), ("[xx+yy))", 6),
                (f"{one}*", 12), (f"{one}* ", 13), (f"{one}{one}", 11), (f"{one}^", 12), (f"{one}^^", 12),
                (f"{one}^2^2", 13),
                (f"{one}^-", 13), (f"{one}^--2", 13), (f"{one}^+2", 12), (f"{one}^2 2", 14), (f"{one}^f", 12),
                (f"{one}^(2)", 12), (f"*{one}", 0), (f"({one}", 12), (f"({one}))", 13), ("()", 1), (")", 0), ("-f", 0),
                ("2f", 0), ("f2", None), ("f 2", 2), ("first", 5), ("first-23", 5), ("first(23)", 6), ("first(-)", 7),
                ("first(-23", 9), ("first(--23)", 7), ("first(-23))", 10), ("first(-f)", 7), ("first (- 23 ) f", 14),
                ("firsts(-23)", 6), ("xx", 0), ("[xx", 3), ("xx+yy", 0), ("[f]", 1), ("[first]", 1), ("f*xy", 2),
                ("abcdefghijklm", 0), ("f*abcdefghijklm", 2), ("abcdefghijkl", None), ("F", 0), ("f$", 1), ("f\n", 1),
                ("f*\tg", 2), ("\u00e9", 0), ("f\u00e9", 1), ("f^\u0662", 2), (f"{one}^" + "1" * 21, 12),
                ("first(-" + "0" * 18 + "23)", None), ("first(-" + "0" * 19 + "23)", 7), ("[xx+xy+6yy+]", 10),
                ("f = g", 2), ("[xx+xx]", 4), ("f * [xx + ", 10), ("[xx+xy+6yy]*[xx+xy+7zz]", 20)):
            self.assertEqual(place_by_machine(text, "base"), place, text)
            if place is not None and "f2" != text:
                self.check_place(read_product, text, place)

    def test_brackets(self):
        for count in range(1, 13):
            self.assertEqual(read_product("(" * count + "first(-23)" + ")" * count), (1, 1, 6))
            self.assertEqual(read_product("( " * count + "[2xx+xy+3yy]^2 *first(-23)" + ")^1" * count), (2, -1, 3))
        for count in (13, 14, 30, 400):
            self.check_place(read_product, "(" * count + "first(-23)" + ")" * count, 12)
            self.check_place(read_product, " (" * count, 25)
        for count, base in itertools.product((11, 12), ("f", "first(-23)*f", "[2xx+xy+3yy]")):
            text = "(" * count + base + ")" * count
            self.assertEqual(class_told(text, 0, len(text), {"f": (2, 1, 3)}), (2, 1, 3))
        row = "*".join(["(first(-23))"] * 40)
        self.assertEqual(read_product(row), (1, 1, 6))
        # Those that have been closed count no longer.
        deep = "(" * 11 + "(first(-23))*(first(-23))*" + "((first(-23)))"
        self.check_place(read_product, deep + ")" * 11, deep.rindex("((") + 1)

    def test_what_is_wrong_though_the_words_can_go_on(self):
        for text, place in (
                ("[xx+yy+xy]", None), ("[xx]", 0), (" [2xx + 2yy]", 1), ("first(-22)", 7), ("first(-0)", 7),
                ("first(- 2)", 8), ("first(-401)", 7), ("first(-404)", 7), ("first(-400)", None), ("first(-3)", None),
                ("f", 0), ("(f)", 1), ("first(-23)^1001", 11), ("first(-23)^-1001", 12),
                ("first(-23)^- 99999999999999999999", 13),
                ("first(-23)^1000", None), ("first(-23)*first(-20)", 10), ("first(-23)*first(-20)*first(-23)", 10),
                ("first(-23)*first(-23)*first(-20)", 21), ("first(-23)*(first(-23)*first(-20))", 22),
                ("(first(-23)*first(-20))*first(-23)", 11),
                # What has something wrong in it tells no class, so nothing is wrong at the * beside it.
                ("first(-23)*first(-20)^1001", 22), ("first(-23)^1001*first(-20)", 11), ("first(-23)*first(-22)", 18),
                ("first(-23)*[xx]", 11), ("first(-23)*f*first(-20)", 11), ("first(-23)*(f*first(-20))", 12),
                ("first(-23)*(first(-20)*f)", 23), ("first(-23)*(first(-23)*first(-20))*first(-20)", 22),
                ("first(-23)*(first(-20)^1001)", 23), ("first(-23)*(f)^2*first(-20)*first(-4)", 12),
                ("first(-20)*first(-23)*f", 10), ("f^1001", 0), ("[xx]^1001*g", 0), ("(first(-3)*first(-4))^1001", 10)):
            self.assertIs(place_by_machine(text, "base"), None, text)
            outcome = outcome_by_machine(text, {})
            if place is None:
                self.assertEqual(read_product(text), outcome)
            else:
                self.assertEqual(outcome, place, text)
                self.check_place(read_product, text, place)

    def test_words_ahead_of_all_else(self):
        # The word that cannot go on is told, though something stands ahead of it that is wrong, too.
        for text, place in (("[xx] *", 6), ("f*g*", 4), ("first(-1) $", 10), ("[2xx+2yy]^5000 first", 15), ("f)", 1)):
            self.check_place(read_product, text, place)

    def test_by_chance(self):
        wrong = right = 0
        for seed in range(6000):
            writer = Writer(seed)
            words = writer.product_words(3, -23)
            if seed % 3 == 0:
                words = writer.spoilt(words)
            text = writer.joined(words)
            if len(text) > 1000:
                continue
            outcome = outcome_by_machine(text, NAMES)
            if isinstance(outcome, tuple):
                right += 1
                self.assertEqual(repr(class_told(text, 0, len(text), NAMES)), repr(reduced_by_hand(outcome)))
            else:
                wrong += 1
                self.check_place(lambda text: class_told(text, 0, len(text), NAMES), text, outcome)
            # Without names these are wrong, or there are none.
            outcome = outcome_by_machine(text, {})
            if isinstance(outcome, tuple):
                self.assertEqual(read_product(text), reduced_by_hand(outcome))
            else:
                self.check_place(read_product, text, outcome)
        self.assertGreater(right, 1000)
        self.assertGreater(wrong, 2000)
