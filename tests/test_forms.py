"""FORMs, CHANGEs and classes (points 7 and 8)."""

import unittest

from classprimes.errors import InvalidForm
from classprimes.forms import (
    are_alike, automorphs, change_between, changed, classes, discriminant_of, first_form, is_form, opposite, reduced,
    value_of)
from tests.common import (
    ALL_REDUCED, CHANGES, DISCRIMINANTS, GREAT, GREAT_CHANGES, NO_FORMS, REDUCED, changed_by_hand, fibonacci_change,
    have_common_divisor, is_reduced_by_hand, small_changes, value_by_hand)

FEW_REDUCED = [form for discriminant in (-3, -4, -7, -8, -20, -23, -56, -84, -87, -399, -400)
               for form in REDUCED[discriminant]]


class ExamplesTest(unittest.TestCase):
    def test_classes(self):
        self.assertEqual(
            repr([classes(-23), classes(-20), classes(-56), first_form(-23), first_form(-56)]),
            "[((1, 1, 6), (2, -1, 3), (2, 1, 3)), ((1, 0, 5), (2, 2, 3)), "
            "((1, 0, 14), (2, 0, 7), (3, -2, 5), (3, 2, 5)), (1, 1, 6), (1, 0, 14)]")

    def test_forms(self):
        self.assertEqual(
            repr([is_form((2, 2, 2)), is_form((1, 5, 6)), is_form((5, 6, 3)), discriminant_of((5, 6, 3)),
                  reduced((5, 6, 3)), reduced((31, 71, 41))]),
            "[False, False, True, -24, (2, 0, 3), (1, 1, 11)]")

    def test_changes(self):
        self.assertEqual(
            repr([changed((2, 1, 3), (1, 1, 0, 1)), changed((2, 1, 3), (0, -1, 1, 0)), value_of((2, 1, 3), 2, -1),
                  opposite((2, 1, 3)), are_alike((2, 1, 3), (2, -1, 3)), are_alike((2, 0, 7), opposite((2, 0, 7)))]),
            "[(2, 5, 6), (3, -1, 2), 9, (2, -1, 3), False, True]")
        self.assertEqual(repr(changed((2, 5, 6), change_between((2, 5, 6), (3, -1, 2)))), "(3, -1, 2)")

    def test_automorphs(self):
        self.assertEqual(
            repr([change_between((2, 1, 3), (2, -1, 3)), automorphs((1, 0, 1)), len(automorphs((1, 1, 1))),
                  automorphs((2, 1, 3))]),
            "[None, ((-1, 0, 0, -1), (0, -1, 1, 0), (0, 1, -1, 0), (1, 0, 0, 1)), 6, "
            "((-1, 0, 0, -1), (1, 0, 0, 1))]")

    def test_refusal(self):
        with self.assertRaises(InvalidForm) as caught:
            reduced((2, 2, 2))
        self.assertEqual(caught.exception.given, (2, 2, 2))


class FormTest(unittest.TestCase):
    def test_all_small_triples(self):
        for a in range(-2, 8):
            for b in range(-9, 10):
                for c in range(-2, 20):
                    expected = a > 0 and b * b - 4 * a * c in DISCRIMINANTS and not have_common_divisor((a, b, c))
                    self.assertIs(is_form((a, b, c)), expected)

    def test_what_is_none(self):
        for value in NO_FORMS:
            self.assertIs(is_form(value), False)

    def test_edges(self):
        for form in ((1, 0, 100), (1, 1, 100), (1, 1, 1), (1, 0, 1), (10, 10, 11), (1, 20, 200), (100, 0, 1)):
            self.assertIs(is_form(form), True)
        for form in ((1, 0, 101), (1, 1, 101), (10, 0, 10), (1, 2, 1), (1, 3, 2), (-1, 0, -100)):
            self.assertIs(is_form(form), False)

    def test_great_ones(self):
        for form in FEW_REDUCED:
            for change in GREAT_CHANGES:
                self.assertIs(is_form(changed_by_hand(form, change)), True)
            for change in (fibonacci_change(110), (10 ** 45, -1, 1, 0)):
                a, b, c = changed_by_hand(form, change)
                self.assertIs(is_form((a, b, c)), True)
                self.assertIs(is_form((-a, b, -c)), False)
                self.assertIs(is_form((a, b + 1, c)), False)
                self.assertIs(is_form((3 * a, 3 * b, 3 * c)), False)

    def test_by_name(self):
        self.assertIs(is_form(value=(1, 1, 6)), True)

    def test_discriminant(self):
        for discriminant in DISCRIMINANTS:
            for form in REDUCED[discriminant]:
                for change in CHANGES[::9] + GREAT_CHANGES:
                    self.assertEqual(discriminant_of(changed_by_hand(form, change)), discriminant)

    def test_opposite(self):
        for a, b, c in ALL_REDUCED + [changed_by_hand((2, 1, 3), change) for change in CHANGES]:
            self.assertEqual(repr(opposite((a, b, c))), repr((a, -b, c)))


class ValueTest(unittest.TestCase):
    def test_values(self):
        numbers = (0, 1, -1, 2, -7, 1000, GREAT, -GREAT, 10 ** 100 - 1)
        for form in FEW_REDUCED + [(5, 6, 3), (31, 71, 41), changed_by_hand((2, 1, 3), GREAT_CHANGES[0])]:
            for x in numbers:
                for y in numbers:
                    self.assertEqual(value_of(form, x, y), value_by_hand(form, x, y))

    def test_signs_and_order_of_x_and_y(self):
        self.assertEqual([value_of((2, 1, 3), 2, 1), value_of((2, 1, 3), 1, 2), value_of((2, 1, 3), -2, 1),
                          value_of((2, 1, 3), -2, -1), value_of((2, 1, 3), 0, 0)], [13, 16, 9, 13, 0])
        self.assertEqual(value_of(y=1, x=2, form=(1, 1, 6)), 12)

    def test_above_0(self):
        for form in FEW_REDUCED:
            for x in range(-5, 6):
                for y in range(-5, 6):
                    self.assertEqual(value_of(form, x, y) > 0, (x, y) != (0, 0))


class ChangedTest(unittest.TestCase):
    def test_values_at_changed_places(self):
        points = ((1, 0), (0, 1), (1, 1), (2, -3), (-7, 5), (GREAT, 3))
        for form in FEW_REDUCED + [(5, 6, 3), (31, 71, 41)]:
            for change in CHANGES:
                p, q, r, s = change
                new = changed(form, change)
                self.assertTrue(is_form(new))
                for x, y in points:
                    self.assertEqual(value_by_hand(new, x, y), value_by_hand(form, p * x + q * y, r * x + s * y))

    def test_what_it_returned_may_be_passed(self):
        form = (2, 1, 3)
        for _ in range(6):
            form = changed(form, GREAT_CHANGES[0])
        self.assertTrue(10 ** 1000 < form[0] < 10 ** 2000)
        self.assertEqual(reduced(form), (2, 1, 3))
        self.assertEqual(reduced(opposite(form)), (2, -1, 3))
        change = change_between(form, changed(form, (0, -1, 1, 0)))
        self.assertEqual(changed(form, change), changed(form, (0, -1, 1, 0)))
        self.assertIs(are_alike(form, (3, -1, 2)), True)
        self.assertEqual(automorphs(form), ((-1, 0, 0, -1), (1, 0, 0, 1)))
        self.assertEqual(value_of(form, 1, 0), form[0])

    def test_by_name(self):
        self.assertEqual(changed(change=(1, 1, 0, 1), form=(2, 1, 3)), (2, 5, 6))


class ReducedTest(unittest.TestCase):
    def test_reduced_ones_stay(self):
        for form in ALL_REDUCED:
            self.assertEqual(repr(reduced(form)), repr(form))

    def test_changed_ones_lead_back(self):
        for form in ALL_REDUCED:
            for change in CHANGES[::13] + GREAT_CHANGES:
                self.assertEqual(reduced(changed_by_hand(form, change)), form)
        for form in FEW_REDUCED:
            for change in CHANGES:
                self.assertEqual(reduced(changed_by_hand(form, change)), form)

    def test_edges(self):
        pairs = [
            ((2, -2, 3), (2, 2, 3)), ((2, 2, 3), (2, 2, 3)), ((3, -2, 3), (3, 2, 3)), ((3, 2, 3), (3, 2, 3)),
            ((1, -1, 1), (1, 1, 1)), ((1, 1, 1), (1, 1, 1)), ((1, 0, 1), (1, 0, 1)), ((1, -1, 6), (1, 1, 6)),
            ((2, -1, 3), (2, -1, 3)), ((2, 1, 3), (2, 1, 3)), ((3, 1, 2), (2, -1, 3)), ((3, -1, 2), (2, 1, 3)),
            ((3, -3, 4), (3, 3, 4)), ((5, -4, 5), (5, 4, 5)), ((5, 0, 1), (1, 0, 5)), ((4, 5, 4), (3, 3, 4)),
            ((10, -10, 11), (10, 10, 11)), ((2, 3, 4), (2, -1, 3)), ((2, -3, 4), (2, 1, 3))]
        for form, expected in pairs:
            self.assertEqual(reduced(form), expected)

    def test_all_small_forms(self):
        for a in range(1, 16):
            for b in range(-17, 18):
                for c in range(1, 16):
                    if is_form((a, b, c)):
                        form = reduced((a, b, c))
                        self.assertTrue(is_reduced_by_hand(form))
                        change = change_between((a, b, c), form)
                        self.assertEqual(changed_by_hand((a, b, c), change), form)


class AlikeTest(unittest.TestCase):
    def check_change(self, form, other):
        change = change_between(form, other)
        self.assertIs(type(change), tuple)
        self.assertEqual([type(number) for number in change], [int] * 4)
        p, q, r, s = change
        self.assertEqual(p * s - q * r, 1)
        self.assertEqual(changed_by_hand(form, change), other)
        self.assertEqual(changed(form, change), other)
        self.assertIs(are_alike(form, other), True)

    def test_alike_forms(self):
        for form in FEW_REDUCED:
            for change in CHANGES[::7] + GREAT_CHANGES:
                other = changed_by_hand(form, change)
                self.check_change(form, other)
                self.check_change(other, form)

    def test_alike_changed_forms(self):
        for form in FEW_REDUCED:
            others = [changed_by_hand(form, change) for change in CHANGES[::17] + GREAT_CHANGES]
            for other in others:
                for another in others:
                    self.check_change(other, another)

    def test_one_form(self):
        for form in ALL_REDUCED + [(5, 6, 3), (31, 71, 41)]:
            self.check_change(form, form)

    def test_unlike_forms(self):
        for discriminant in DISCRIMINANTS:
            for form in REDUCED[discriminant]:
                for other in REDUCED[discriminant]:
                    if form != other:
                        self.assertIs(change_between(form, other), None)
                        self.assertIs(are_alike(form, other), False)

    def test_unlike_changed_forms(self):
        for change in GREAT_CHANGES:
            for then in GREAT_CHANGES:
                form = changed_by_hand((2, 1, 3), change)
                other = changed_by_hand((2, -1, 3), then)
                self.assertIs(change_between(form, other), None)
                self.assertIs(are_alike(form, other), False)

    def test_unlike_discriminants(self):
        for form in FEW_REDUCED:
            for other in FEW_REDUCED:
                if discriminant_of(form) != discriminant_of(other):
                    self.assertIs(change_between(form, other), None)
                    self.assertIs(are_alike(form, other), False)

    def test_opposites(self):
        for form in ALL_REDUCED:
            a, b, c = form
            expected = b == 0 or b == a or a == c
            self.assertIs(are_alike(form, opposite(form)), expected)

    def test_by_name(self):
        change = change_between(other=(3, -1, 2), form=(2, 5, 6))
        self.assertEqual(changed_by_hand((2, 5, 6), change), (3, -1, 2))
        self.assertIs(are_alike(other=(2, -1, 3), form=(2, 1, 3)), False)


class AutomorphsTest(unittest.TestCase):
    def check_automorphs(self, form, count):
        told = automorphs(form)
        self.assertIs(type(told), tuple)
        self.assertEqual(len(told), count)
        for change in told:
            self.assertEqual((type(change), [type(number) for number in change]), (tuple, [int] * 4))
            p, q, r, s = change
            self.assertEqual(p * s - q * r, 1)
            self.assertEqual(changed_by_hand(form, change), form)
        for change, then in zip(told, told[1:]):
            self.assertLess(change, then)

    def count(self, discriminant):
        return {-3: 6, -4: 4}.get(discriminant, 2)

    def test_all_discriminants(self):
        for discriminant in DISCRIMINANTS:
            for form in REDUCED[discriminant]:
                for change in [(1, 0, 0, 1), (7, 3, 2, 1), (1, -1, 1, 0)] + GREAT_CHANGES:
                    self.check_automorphs(changed_by_hand(form, change), self.count(discriminant))

    def test_all_changes_of_3_and_4(self):
        for form in ((1, 1, 1), (1, 0, 1)):
            for change in CHANGES:
                self.check_automorphs(changed_by_hand(form, change), self.count(discriminant_of(form)))

    def test_against_all_small_changes(self):
        changes = small_changes(5)
        for form in ((1, 1, 1), (1, 0, 1), (1, -1, 1), (1, 3, 3), (3, 3, 1), (2, 2, 1), (1, 2, 2), (5, 4, 1), (1, 1, 2),
                     (2, 1, 3), (1, 0, 3), (3, 2, 3)):
            expected = [change for change in changes if changed_by_hand(form, change) == form]
            self.assertEqual(repr(automorphs(form)), repr(tuple(sorted(expected))))

    def test_told(self):
        self.assertEqual(
            automorphs((1, 1, 1)),
            ((-1, -1, 1, 0), (-1, 0, 0, -1), (0, -1, 1, 1), (0, 1, -1, -1), (1, 0, 0, 1), (1, 1, -1, 0)))


class ClassesTest(unittest.TestCase):
    def test_against_all_triples(self):
        for discriminant in DISCRIMINANTS:
            self.assertEqual(repr(classes(discriminant)), repr(tuple(REDUCED[discriminant])))

    def test_known_numbers_of_classes(self):
        known = {
            -3: 1, -4: 1, -12: 1, -15: 2, -16: 1, -23: 3, -27: 1, -28: 1, -39: 4, -47: 5, -71: 7, -84: 4, -163: 1,
            -167: 11, -191: 13, -239: 15, -311: 19, -356: 12, -383: 17, -399: 16, -400: 4}
        for discriminant, count in known.items():
            self.assertEqual(len(classes(discriminant)), count)

    def test_one_class(self):
        ones = [discriminant for discriminant in DISCRIMINANTS if len(classes(discriminant)) == 1]
        self.assertEqual(ones, [-163, -67, -43, -28, -27, -19, -16, -12, -11, -8, -7, -4, -3])

    def test_first_form(self):
        for discriminant in DISCRIMINANTS:
            even = (1, 0, -discriminant // 4)
            odd = (1, 1, (1 - discriminant) // 4)
            expected = even if discriminant % 4 == 0 else odd
            self.assertEqual(repr(first_form(discriminant)), repr(expected))
            self.assertEqual(discriminant_of(expected), discriminant)
            self.assertIn(expected, classes(discriminant))

    def test_first_form_edges(self):
        self.assertEqual([first_form(-3), first_form(-4), first_form(-7), first_form(-399), first_form(-400)],
                         [(1, 1, 1), (1, 0, 1), (1, 1, 2), (1, 1, 100), (1, 0, 100)])

    def test_forms_that_take_1_are_those_of_the_first_class(self):
        for discriminant in DISCRIMINANTS:
            for form in REDUCED[discriminant]:
                takes = any(value_by_hand(form, x, y) == 1 for x in range(-12, 13) for y in range(-12, 13))
                self.assertIs(are_alike(form, first_form(discriminant)), takes)

    def test_equal_calls(self):
        self.assertEqual(classes(-56), classes(-56))
        self.assertEqual(change_between((2, 5, 6), (3, -1, 2)), change_between((2, 5, 6), (3, -1, 2)))

    def test_by_name(self):
        self.assertEqual(classes(discriminant=-20), ((1, 0, 5), (2, 2, 3)))
        self.assertEqual(first_form(discriminant=-20), (1, 0, 5))
