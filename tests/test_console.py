"""The console (point 22)."""

import itertools
import unittest

from classprimes.composing import composed, kind_of, order_of
from classprimes.console import run
from classprimes.counts import hurwitz
from classprimes.curves import curves_with
from classprimes.errors import InvalidLines
from classprimes.falling import factors, roots
from classprimes.genera import genera, residues_of
from classprimes.primes import order_at
from classprimes.singular import class_polynomial
from classprimes.steps import rings
from classprimes.texts import form_text
from classprimes.values import solutions
from tests.by_machine import outcome_by_machine
from tests.common import DISCRIMINANTS, NO_NUMBERS, PRIMES, REDUCED, nested, symbol_at_prime_by_hand
from tests.writing import NAMES, Writer

LETTERS = "abcdefghijklmnopqrstuvwxyz"
LETS = tuple(f"let {name} = [{form_text(form)}]" for name, form in NAMES.items())
# For each command a line that is right.
RIGHT = {
    "let": "let f = first(-23)", "undo": "undo", "value": "value first(-23)", "order": "order first(-23)",
    "residues": "residues first(-23)", "same": "same first(-23) = first(-23)", "takes": "takes 59 first(-23)",
    "classes": "classes -23", "kind": "kind -23", "genera": "genera -23", "tells": "tells -23",
    "polynomial": "polynomial -23", "prime": "prime 2 -23", "falls": "falls 2 -23", "roots": "roots 59 -23",
    "rings": "rings 2 59 -23", "hurwitz": "hurwitz 23", "curves": "curves 59 72"}
NO_WHOLE = ("", "x", "-5", "+5", "05", "00", "5.", "5.0", "1e3", "five", "\u0665", "\u00b2", "5\n", "5\t", "0x5", "1_0",
            "99999", "100000", "1" * 900, "(5)", "'5'")


def last(*lines):
    return run(lines)[-1]


class ExamplesTest(unittest.TestCase):
    def test_first_run(self):
        lines = ("let f = [2xx + xy + 3yy]", "order f", "value f*f", "same f^2 = f^-1", "takes 59 f^3", "classes -20",
                 "tells -56", "genera -56", "polynomial -20", "prime 3 -56", "falls 5 -56", "rings 2 59 -23",
                 "kind -84", "undo")
        self.assertEqual(
            repr(run(lines)),
            "('2xx + xy + 3yy', '3', '2xx - xy + 3yy', 'yes', '7 -2', 'xx + 5yy; 2xx + 2xy + 3yy', 'no', '2', "
            "'-681472000 -1264000 1', 'order 4', '4', '20 42 44', '2 2', '0 names')")

    def test_second_run(self):
        lines = ("value f", "roots 5 -56", "hurwitz 12", "curves 59 72", "takes 7 [xx+5yy]", "value [xx + xy",
                 "prime 7 -56", "residues [2xx + 2xy + 3yy]", "fly", "")
        self.assertEqual(
            repr(run(lines)),
            "('BadText 6', 'none', '4/3', '174', 'no', 'BadText 14', 'divides', '3 7', '?', '')")


class LinesTest(unittest.TestCase):
    def test_what_is_no_tuple_of_lines(self):
        wrong_ones = [value for value in NO_NUMBERS if value not in ((),)] + [
            0, 1, [""], ["undo"], "undo", ("",) * 201, ("undo",) * 400, (None,) * 201, {"undo": 1}, b"undo"]
        for wrong in wrong_ones:
            if not (isinstance(wrong, tuple) and len(wrong) <= 200):
                for call in (lambda: run(wrong), lambda: run(lines=wrong)):
                    with self.assertRaises(InvalidLines) as caught:
                        call()
                    self.assertIs(type(caught.exception), InvalidLines)
                    self.assertIs(caught.exception.index, None)

    def test_what_is_no_line(self):
        for wrong in [value for value in NO_NUMBERS if type(value) is not str] + [0, 1, b"undo", ["undo"], nested(tuple,
                                                                                                                  29)]:
            for ahead in (0, 1, 5, 199):
                for behind in (0, 1, 200 - ahead - 1):
                    if ahead + 1 + behind <= 200:
                        lines = ("undo",) * ahead + (wrong,) + (None,) * behind
                        with self.assertRaises(InvalidLines) as caught:
                            run(lines)
                        self.assertEqual(repr(caught.exception.index), repr(ahead))

    def test_how_many_lines(self):
        self.assertEqual(repr(run(())), "()")
        self.assertEqual(run(("kind -23",) * 200), ("3",) * 200)
        self.assertEqual(run(lines=("kind -23",)), ("3",))

    def test_each_run_has_a_desk_of_its_own(self):
        self.assertEqual(run(("let f = first(-4)", "value f")), ("xx + yy", "xx + yy"))
        self.assertEqual(run(("value f", "undo")), ("BadText 6", "nothing there"))

    def test_blanks_alone(self):
        self.assertEqual(run(("", " ", "     ", "\n", "\t", "  \n", "\u00a0", "\r")), ("", "", "", "?", "?", "?", "?",
                                                                                       "?"))


class CommandsTest(unittest.TestCase):
    def test_blanks(self):
        for line in RIGHT.values():
            answer = last(line)
            self.assertNotIn(answer, ("?", ""))
            for wide in (f" {line}", f"{line}  ", f"   {line} ", line.replace(" ", "   ")):
                self.assertEqual(last(wide), answer, wide)

    def test_other_signs_than_blanks(self):
        for line in RIGHT.values():
            for sign in "\n\t\r\u00a0\x0b":
                self.assertEqual(last(sign + line), "?")
                self.assertEqual(last(line.replace(" ", sign, 1)), "?" if " " in line else last(line))
                wrong = last(line + sign)
                if line.split()[0] in ("let", "value", "order", "residues", "same", "takes"):
                    self.assertEqual(wrong, f"BadText {len(line)}")
                else:
                    self.assertEqual(wrong, "?")

    def test_capitals_and_other_words(self):
        for word, line in RIGHT.items():
            for other in (word.capitalize(), word.upper(), word + "s", word[:-1], word + "1", "x" + word, word + ":",
                          word + "(", word + "-"):
                self.assertEqual(last(other + line[len(word):]), "?")
                self.assertEqual(last(other), "?")
        for line in ("fly", "help", "f", "[xx+yy]", "first(-23)", "= f", "1", "?", "let", "undo f", "undo undo",
                     "undo 1",
                     "undo = f"):
            self.assertEqual(last(line), "?")

    def test_nothing_behind_the_word(self):
        for word in RIGHT:
            if word != "undo":
                for line in (word, f"{word} ", f"  {word}    "):
                    self.assertEqual(last(line), "?")
        self.assertEqual(run((" undo  ",)), ("nothing there",))

    def test_too_many_words_and_too_few(self):
        for word, line in RIGHT.items():
            if not any(sign in line for sign in "(="):
                if word != "undo":
                    self.assertEqual(last(line.rsplit(" ", 1)[0]), "?")
                self.assertEqual(last(line + " 5"), "?")
                self.assertEqual(last(line + " -23"), "?")
                self.assertEqual(last(line + " ="), "?")

    def test_numbers_that_are_not_as_told(self):
        lines = {
            "classes {}": "D", "kind {}": "D", "genera {}": "D", "tells {}": "D", "polynomial {}": "D",
            "prime {} -23": "P", "prime 2 {}": "D", "falls {} -23": "P", "falls 2 {}": "D", "roots {} -23": "P",
            "roots 2 {}": "D", "rings {} 59 -23": "M", "rings 2 {} -23": "P", "rings 2 59 {}": "D", "hurwitz {}": "N",
            "curves {} 72": "F", "curves 59 {}": "C", "takes {} first(-23)": "P"}
        wrong_ones = {
            "D": ("0", "-0", "23", "-22", "-1", "-2", "-5", "-401", "-402", "-404", "--23", "- 23", "-023", "-23.",
                  "+23",
                  "-", "-x", "-2 3", "-\u0662\u0663", "-10023", "-" + "1" * 900, "23-", "-23\n"),
            "P": ("0", "1", "4", "9", "91", "9999", "10000", "10007", "-2", "02", "-7", "100003"),
            "M": ("0", "1", "4", "5", "-2", "02", "23"), "N": ("10001", "-1", "01", "000"),
            "F": ("2", "3", "4", "1009", "1000", "1001", "05", "9973"), "C": ("2001", "-1", "072", "9999")}
        for line, kind in lines.items():
            for wrong in wrong_ones[kind] + NO_WHOLE:
                self.assertEqual(last(line.format(wrong)), "?", line.format(wrong))

    def test_numbers_at_the_bounds(self):
        self.assertEqual(
            run(("kind -3", "kind -400", "hurwitz 0", "hurwitz 10000", "curves 5 0", "curves 997 2000", "curves 5 5",
                 "takes 9973 first(-4)", "takes 2 first(-4)", "rings 3 59 -23")),
            ("one", "4", "-1/12", "{}/{}".format(*hurwitz(10000)), "0", "0", str(curves_with(5, 5)), "82 57", "1 1",
             "20 42 44"))

    def test_commands_of_discriminants(self):
        for discriminant in DISCRIMINANTS[::3] + [-3, -4, -23, -163, -359]:
            kind, parted = kind_of(discriminant), genera(discriminant)
            self.assertEqual(
                run((f"classes {discriminant}", f"kind {discriminant}", f"genera {discriminant}",
                     f"tells {discriminant}",
                     f"polynomial {discriminant}")),
                ("; ".join(form_text(form) for form in REDUCED[discriminant]),
                 " ".join(str(number) for number in kind) or "one", str(len(parted)),
                 "yes" if len(parted) == len(REDUCED[discriminant]) else "no",
                 " ".join(str(number) for number in class_polynomial(discriminant))))

    def test_commands_of_primes_and_discriminants(self):
        for discriminant in DISCRIMINANTS[::7] + [-3, -4, -20, -23, -56]:
            for prime in PRIMES[:12] + [101, 9973]:
                symbol = symbol_at_prime_by_hand(discriminant, prime)
                told = [len(factor) - 1 for factor, exponent in factors(discriminant, prime) for _ in range(exponent)]
                order = "divides" if symbol == 0 else "no square"
                if symbol == 1:
                    order = f"order {order_at(discriminant, prime)}"
                self.assertEqual(
                    run((f"prime {prime} {discriminant}", f"falls {prime} {discriminant}",
                         f"roots {prime} {discriminant}")),
                    (order, " ".join(str(degree) for degree in sorted(told)),
                     " ".join(str(root) for root in roots(discriminant, prime)) or "none"))

    def test_degrees_as_often_as_the_exponents(self):
        self.assertEqual(
            run(("falls 5 -23", "falls 37 -23", "falls 43 -47", "falls 23 -23", "falls 2 -399", "falls 13 -23",
                 "falls 2 -3")),
            ("1 1 1", "1 2", "1 1 1 2", "1 1 1", "8 8", "3", "1"))

    def test_rings(self):
        for discriminant, prime, step in ((-23, 59, 2), (-23, 59, 3), (-71, 107, 2), (-56, 23, 3), (-7, 11, 2), (-15,
                                                                                                                 19, 2),
                                          (-104, 107, 3), (-239, 383, 3), (-391, 491, 2), (-399, 463, 2)):
            told = rings(discriminant, prime, step)
            self.assertEqual(
                last(f"rings {step} {prime} {discriminant}"), "; ".join(" ".join(map(str, ring)) for ring in told))
        for step, prime, discriminant in ((2, 13, -23), (2, 5, -23), (2, 23, -23), (2, 2, -7), (3, 3, -8), (2, 29, -20),
                                          (3, 5, -4), (2, 5, -20), (2, 7, -20)):
            self.assertEqual(last(f"rings {step} {prime} {discriminant}"), "none")

    def test_hurwitz_and_curves(self):
        for number in (*range(40), 9999, 10000):
            n, m = hurwitz(number)
            self.assertEqual(last(f"hurwitz {number}"), str(n) if m == 1 else f"{n}/{m}")
        for prime in (5, 7, 59, 997):
            for number in (0, 1, 2, 5, 8, 13, 59, 72, 997, 998, 1000, 2000):
                self.assertEqual(last(f"curves {prime} {number}"), str(curves_with(prime, number)))

    def test_commands_of_products(self):
        for discriminant in (-23, -56, -84, -231):
            for form, other in itertools.product(REDUCED[discriminant], repeat=2):
                product = composed(form, other)
                text = f"[{form_text(form)}]*[{form_text(other)}]"
                self.assertEqual(
                    run((f"value {text}", f"order {text}", f"residues {text}", f"let a = {text}",
                         f"same {text} = [{form_text(form)}]")),
                    (form_text(product), str(order_of(product)), " ".join(map(str, residues_of(product))),
                     form_text(product), "yes" if product == form else "no"))
                for prime in (2, 7, 59, 79, 131):
                    pairs = solutions(product, prime)
                    self.assertEqual(last(f"takes {prime} {text}"), "{} {}".format(*pairs[-1]) if pairs else "no")

    def test_takes_the_last_pair_of_the_reduced_form(self):
        self.assertEqual(
            run(("takes 59 [xx + xy + 6yy]", "takes 59 [8xx + 13xy + 6yy]", "takes 2 [2xx+xy+3yy]",
                 "takes 23 first(-23)",
                 "takes 5 first(-23)", "takes  3   [2xx - xy + 3yy]")),
            ("7 -2", "7 -2", "1 0", "1 -2", "no", "0 1"))

    def test_places_are_counted_in_the_whole_line(self):
        for seed in range(1500):
            writer = Writer(seed)
            words = writer.product_words(2, -23)
            if seed % 3 == 0:
                words = writer.spoilt(words)
            text = writer.joined(words)
            if len(text) > 900 or not text.strip(" "):
                continue
            for ahead in ("value ", "  order   ", "residues ", "takes 59 ", " takes  3  ", "let b =", "let  b  =  "):
                line = ahead + text
                self.check_product(ahead, line)

    def check_product(self, ahead, line):
        outcome = outcome_by_machine(" " * len(ahead) + line[len(ahead):], NAMES)
        if isinstance(outcome, tuple):
            one = last(*LETS, line)
            self.assertNotEqual(one, "?")
            self.assertFalse(one.startswith("BadText"))
        else:
            self.assertEqual(last(*LETS, line), f"BadText {outcome}", line)

    def test_missing_words(self):
        self.assertEqual(
            run(("value [xx", "value [xx   ", "value (", "order first(-23)*", "residues first(-23)^ ", "takes 59 first",
                 "let f =", "let f =   ", "let f = first(-23)*", "value   [xx + ")),
            ("BadText 9", "BadText 12", "BadText 7", "BadText 17", "BadText 21", "BadText 14", "BadText 7",
             "BadText 10",
             "BadText 19", "BadText 14"))

    def test_wrong_though_the_words_can_go_on(self):
        self.assertEqual(
            run(("value [xx]", "order nope", "residues first(-22)", "takes 59 first(-23)^1001",
                 "let f = first(-23)*first(-20)", "value   f", "let f = f", "order  [xx+yy]*[xx+5yy]^2")),
            ("BadText 6", "BadText 6", "BadText 16", "BadText 20", "BadText 18", "BadText 8", "BadText 8",
             "BadText 14"))

    def test_wrong_commands_ahead_of_wrong_products(self):
        self.assertEqual(
            run(("takes 4 [xx", "takes x [xx", "takes 59", "takes 59   ", "takes [xx", "takes 59[xx", "let f [xx",
                 "let F = [xx", "let = [xx", "let f g = [xx", "same [xx [xx", "same [xx = [xx = [xx", "values [xx",
                 "let first = [xx", "let xx = [xx", "takes 059 [xx")),
            ("?",) * 16)


class SameTest(unittest.TestCase):
    def test_yes_and_no(self):
        lines = LETS + ("same f = g^-1", "same f=g", "same f*f*f = one", "same first(-23)=one", "same f = a",
                        "same  a^2  =zzzzzzzzzzzz ",
                        "same h7 = first(-23)", "same f^0 = g^0")
        self.assertEqual(run(lines)[len(LETS):], ("yes", "no", "yes", "yes", "no", "yes", "no", "yes"))

    def test_equals(self):
        for line in ("same f", "same f g", "same first(-23)", "same f == g", "same f = g = f", "same = =", "same ==",
                     "same f = g =", "same = f = g", "same   "):
            self.assertEqual(last(*LETS, line), "?")
        self.assertEqual(last(*LETS, "same=f"), "?")

    def test_faults(self):
        for line, place in (
                ("same = f", 5), ("same   = f", 7), ("same f =", 8), ("same f =   ", 11), ("same =", 5), ("same = ", 5),
                ("same f* = g", 8), ("same (f = g", 8), ("same f = g*", 11), ("same f = (g  ", 13), ("same nope = g",
                                                                                                     5),
                ("same f = nope", 9), ("same nope = nope", 5), ("same nope = $", 5), ("same $ = nope", 5),
                ("same f*a = nope", 6), ("same f = f*a", 10), ("same f^1001 = $", 7), ("same f) = g", 6),
                ("same f = g)", 10), ("same [xx+yy = f", 12), ("same F = f", 5), ("same f = f\n", 10)):
            self.assertEqual(last(*LETS, line), f"BadText {place}", line)


class DeskTest(unittest.TestCase):
    def test_names(self):
        for name in ("f", "let", "undo", "value", "same", "order", "x", "y", "xxx", "xy2", "firsts", "fir", "a1b2c3",
                     "abcdefghijkl"):
            self.assertEqual(
                run((f"let {name} = [2xx+xy+3yy]", f"value {name}^2", "undo")), ("2xx + xy + 3yy", "2xx - xy + 3yy",
                                                                                 "0 names"))
        for name in ("xx", "xy", "yy", "first", "F", "1f", "f_", "f-", "abcdefghijklm", "f g", "\u00e9", "f\u00e9",
                     "f.", "",
                     "(f)", "f\t", "\nf", "2", "f\u00b2"):
            self.assertEqual(run((f"let {name} = [2xx+xy+3yy]", "undo")), ("?", "nothing there"))

    def test_blanks_around_the_equals(self):
        for line in ("let f=[2xx+xy+3yy]", "let f =[2xx+xy+3yy]", "let f= [2xx+xy+3yy]",
                     "  let   f   =   [2xx+xy+3yy]  "):
            self.assertEqual(run((line, "order f")), ("2xx + xy + 3yy", "3"))
        self.assertEqual(run(("let f", "let", "letf=first(-23)", "let f first(-23)", "let=first(-23)")), ("?",) * 5)

    def test_second_equals(self):
        self.assertEqual(
            run(("let f = first(-23) = first(-23)", "let f == first(-23)", "let f = g = h", "let f =", "let f = =",
                 "undo")),
            ("BadText 19", "BadText 7", "BadText 10", "BadText 7", "BadText 8", "nothing there"))

    def test_reduced_forms_are_kept(self):
        self.assertEqual(
            run(("let f = [6xx + 13xy + 8yy]", "value f", "let f = f", "let f = f*f", "value f", "let g = f^-1",
                 "order g")),
            ("xx + xy + 6yy",) * 6 + ("1",))

    def test_let_over_an_elder_name(self):
        self.assertEqual(
            run(("let f = [2xx+xy+3yy]", "let f = f^2", "value f", "let g = f*f", "undo", "undo", "value f", "undo",
                 "value f", "undo")),
            ("2xx + xy + 3yy", "2xx - xy + 3yy", "2xx - xy + 3yy", "2xx + xy + 3yy", "1 names", "1 names",
             "2xx + xy + 3yy",
             "0 names", "BadText 6", "nothing there"))

    def test_undo_of_lets_that_change_nothing(self):
        self.assertEqual(
            run(("let f = first(-23)", "let f = f", "let f = f", "undo", "value f", "undo", "value f", "undo", "undo")),
            ("xx + xy + 6yy",) * 3 + ("1 names", "xx + xy + 6yy", "1 names", "xx + xy + 6yy", "0 names",
                                      "nothing there"))

    def test_undo_more_often(self):
        for count in range(5):
            lines = tuple(f"let {name} = first(-23)" for name in LETTERS[:count])
            expected = tuple(f"{left} names" for left in reversed(range(count)))
            self.assertEqual(run(lines + ("undo",) * (count + 3))[count:], expected + ("nothing there",) * 3)
        self.assertEqual(run(("undo", "let f = first(-4)", "undo", "undo")), ("nothing there", "xx + yy", "0 names",
                                                                              "nothing there"))

    def test_wrong_lets_are_not_kept(self):
        lines = ("let f = first(-23)", "let g = nope", "let g = [xx", "let G = f", "let g f", "let g = f^1001", "undo",
                 "undo")
        self.assertEqual(
            run(lines), ("xx + xy + 6yy", "BadText 8", "BadText 11", "?", "?", "BadText 10", "0 names",
                         "nothing there"))

    def test_full(self):
        lets = tuple(f"let {name} = first(-{size})" for name, size in zip(LETTERS[:20], range(3, 83, 4)))
        self.assertEqual(last(*lets), form_text((1, 1, 20)))
        self.assertEqual(
            run(lets + ("let u = a", "let u = first(-4)", "value u", "let u = nope", "let U = a", "let u = [xx",
                        "let t = a",
                        "value t", "let u = a", "undo", "value t", "let u = a", "undo", "let u = a", "value u",
                        "let v = u",
                        "undo", "let t = u"))[20:],
            ("full", "full", "BadText 6", "BadText 8", "?", "BadText 11", "xx + xy + yy", "xx + xy + yy", "full",
             "20 names",
             "xx + xy + 20yy", "full", "19 names", "xx + xy + yy", "xx + xy + yy", "full", "19 names", "BadText 8"))

    def test_nothing_else_changes_the_names(self):
        lines = ("let f = [2xx+xy+3yy]", "value f*f", "order f", "residues f", "same f = f^2", "takes 59 f", "fly", "",
                 "value $", "kind -84", "value f", "undo")
        self.assertEqual(run(lines)[-2:], ("2xx + xy + 3yy", "0 names"))

    def test_what_was_answered_may_be_said(self):
        for discriminant in (-359, -399):
            answers = run((f"polynomial {discriminant}", f"classes {discriminant}"))
            self.assertEqual(run(answers), ("?", "?"))
            self.assertEqual(run(tuple(f"value {answer}" for answer in answers)), ("BadText 6", "BadText 6"))
