"""Composing FORMs and the group of the classes (point 9)."""

import itertools
import math
import unittest

from classprimes.composing import composed, composing_numbers, kind_of, order_of, own_opposites, power, squares
from classprimes.errors import InvalidForm, InvalidNumber, OtherDiscriminant
from classprimes.forms import is_form, opposite, reduced
from tests.common import (
    ALL_REDUCED, CHANGES, DISCRIMINANTS, GREAT_CHANGES, NO_FORMS, REDUCED, changed_by_hand, first_by_hand,
    reduced_by_hand, small_changes, value_by_hand)

SOME = (-3, -4, -7, -12, -15, -16, -20, -23, -27, -36, -47, -56, -63, -64, -72, -75, -84, -96, -100, -108, -144, -160,
        -163, -180, -192, -231, -240, -260, -288, -300, -315, -335, -359, -363, -384, -396, -399, -400)
TURNS = small_changes(3)


def discriminant_by_hand(form):
    a, b, c = form
    return b * b - 4 * a * c


def leading(form):
    """Some FORMs alike to this one, each with another number ahead."""
    alike = {}
    for change in TURNS:
        other = changed_by_hand(form, change)
        alike.setdefault(other[0], other)
    return list(alike.values())


def united(form, other):
    """The FORM made of two with numbers ahead that share no divisor, as the bracket of point 9 tells."""
    a, b, _ = form
    lead, middle, _ = other
    discriminant = discriminant_by_hand(form)
    for common in range(b, b + 2 * a * lead, 2 * a):
        if (common - middle) % (2 * lead) == 0:
            c, rest = divmod(common * common - discriminant, 4 * a * lead)
            assert rest == 0
            return (a * lead, common, c)
    raise AssertionError((form, other))


def products_by_hand(form, other):
    """The reduced FORMs of those that are composed of FORMs of both classes."""
    pairs = [(one, two) for one in leading(form) for two in leading(other) if math.gcd(one[0], two[0]) == 1]
    return {reduced_by_hand(united(one, two)) for one, two in pairs}


def table_of(discriminant):
    forms = REDUCED[discriminant]
    return {(form, other): composed(form, other) for form in forms for other in forms}


class ExamplesTest(unittest.TestCase):
    def test_composed(self):
        self.assertEqual(
            repr([composed((2, 1, 3), (2, 1, 3)), composed((2, 1, 3), (2, -1, 3)), composed((3, 2, 5), (3, 2, 5)),
                  composed((3, 2, 5), (2, 0, 7)), power((3, 2, 5), -1), power((3, 2, 5), 4)]),
            "[(2, -1, 3), (1, 1, 6), (2, 0, 7), (3, -2, 5), (3, -2, 5), (1, 0, 14)]")

    def test_group(self):
        self.assertEqual(
            repr([order_of((2, 1, 3)), order_of((1, 1, 6)), kind_of(-23), kind_of(-56), kind_of(-84), kind_of(-7),
                  own_opposites(-56), squares(-56)]),
            "[3, 1, (3,), (4,), (2, 2), (), ((1, 0, 14), (2, 0, 7)), ((1, 0, 14), (2, 0, 7))]")

    def test_numbers(self):
        third, numbers = composing_numbers((2, 1, 3), (2, 1, 3))
        self.assertEqual(
            repr([reduced(third), numbers[0] * numbers[5] - numbers[1] * numbers[4],
                  numbers[0] * numbers[6] - numbers[2] * numbers[4]]),
            "[(2, -1, 3), 2, 2]")

    def test_refusal(self):
        with self.assertRaises(OtherDiscriminant) as caught:
            composed((2, 1, 3), (1, 0, 5))
        self.assertEqual(caught.exception.given, (1, 0, 5))


class ComposedTest(unittest.TestCase):
    def test_against_united_forms(self):
        for discriminant in SOME:
            for form, other in itertools.product(REDUCED[discriminant], repeat=2):
                self.assertEqual({composed(form, other)}, products_by_hand(form, other))

    def test_told_as_a_tuple_of_whole_numbers(self):
        told = composed((3, 2, 5), (2, 0, 7))
        self.assertEqual(repr(told), "(3, -2, 5)")

    def test_all_pairs_are_classes(self):
        for discriminant in DISCRIMINANTS:
            for product in table_of(discriminant).values():
                self.assertIn(product, REDUCED[discriminant])

    def test_classes_not_forms(self):
        for discriminant in (-3, -4, -20, -23, -56, -84, -96, -231, -399, -400):
            forms = REDUCED[discriminant][:6]
            for form, other in itertools.product(forms, repeat=2):
                expected = composed(form, other)
                for change, then in zip(CHANGES[::11] + GREAT_CHANGES, CHANGES[5::11] + GREAT_CHANGES[::-1]):
                    self.assertEqual(
                        composed(changed_by_hand(form, change), changed_by_hand(other, then)), expected)

    def test_values_multiply(self):
        # What two forms take, multiplied, is a value of their product.
        for discriminant in (-20, -23, -56, -84, -399):
            for form, other in itertools.product(REDUCED[discriminant], repeat=2):
                product = composed(form, other)
                number = value_by_hand(form, 1, 0) * value_by_hand(other, 1, 0)
                a, b, c = product
                size = -discriminant
                width = math.isqrt(4 * c * number // size) + 1
                height = math.isqrt(4 * a * number // size) + 1
                self.assertTrue(any(
                    value_by_hand(product, x, y) == number
                    for x in range(-width, width + 1) for y in range(height + 1)))

    def test_by_name(self):
        self.assertEqual(composed(other=(2, 0, 7), form=(3, 2, 5)), (3, -2, 5))


class GroupTest(unittest.TestCase):
    def test_one_and_inverses(self):
        for discriminant in DISCRIMINANTS:
            one = first_by_hand(discriminant)
            for form in REDUCED[discriminant]:
                self.assertEqual(composed(one, form), form)
                self.assertEqual(composed(form, one), form)
                self.assertEqual(composed(form, opposite(form)), one)
                self.assertEqual(composed(opposite(form), form), one)

    def test_commutative_and_each_row_has_all(self):
        for discriminant in DISCRIMINANTS:
            table = table_of(discriminant)
            for form, other in table:
                self.assertEqual(table[form, other], table[other, form])
            for form in REDUCED[discriminant]:
                row = [table[form, other] for other in REDUCED[discriminant]]
                self.assertEqual(sorted(row), REDUCED[discriminant])

    def test_associative(self):
        for discriminant in DISCRIMINANTS:
            table = table_of(discriminant)
            for form, other, third in itertools.product(REDUCED[discriminant], repeat=3):
                self.assertEqual(table[table[form, other], third], table[form, table[other, third]])


class NumbersTest(unittest.TestCase):
    def check_numbers(self, form, other):
        third, numbers = composing_numbers(form, other)
        self.assertEqual((type(third), type(numbers), len(numbers)), (tuple, tuple, 8))
        self.assertEqual({type(number) for number in third + numbers}, {int})
        self.assertIs(is_form(third), True)
        self.assertEqual(discriminant_by_hand(third), discriminant_by_hand(form))
        p, q = numbers[:4], numbers[4:]
        self.assertEqual(p[0] * q[1] - p[1] * q[0], form[0])
        self.assertEqual(p[0] * q[2] - p[2] * q[0], other[0])
        # Each side has the degree 2 in x, y and in z, w: three unlike places of each are enough.
        for x, y in ((1, 0), (0, 1), (1, 1), (2, -3)):
            for z, w in ((1, 0), (0, 1), (1, 1), (-5, 2)):
                pairs = (x * z, x * w, y * z, y * w)
                upper = sum(number * pair for number, pair in zip(p, pairs))
                lower = sum(number * pair for number, pair in zip(q, pairs))
                self.assertEqual(
                    value_by_hand(form, x, y) * value_by_hand(other, z, w), value_by_hand(third, upper, lower))
        return third

    def test_all_pairs_of_reduced_forms(self):
        for discriminant in DISCRIMINANTS:
            for form, other in itertools.product(REDUCED[discriminant], repeat=2):
                third = self.check_numbers(form, other)
                self.assertEqual(reduced_by_hand(third), composed(form, other))

    def test_forms_that_are_not_reduced(self):
        for discriminant in SOME[::3]:
            for form, other in itertools.product(REDUCED[discriminant][:4], repeat=2):
                for change, then in zip(CHANGES[::17], CHANGES[3::17]):
                    third = self.check_numbers(changed_by_hand(form, change), changed_by_hand(other, then))
                    self.assertEqual(reduced_by_hand(third), composed(form, other))

    def test_great_forms(self):
        for discriminant in SOME[::4]:
            for form, other in itertools.product(REDUCED[discriminant][:3], repeat=2):
                for change, then in zip(GREAT_CHANGES, GREAT_CHANGES[::-1]):
                    third = self.check_numbers(changed_by_hand(form, change), changed_by_hand(other, then))
                    self.assertEqual(reduced_by_hand(third), composed(form, other))
                    self.check_numbers(form, changed_by_hand(other, then))
                    self.check_numbers(changed_by_hand(form, change), other)

    def test_what_it_returned_may_be_passed(self):
        for form in ((2, 1, 3), (3, 2, 5), (5, 1, 20), changed_by_hand((3, 2, 5), GREAT_CHANGES[0])):
            third = form
            for count in range(2, 30):
                third = self.check_numbers(third, form)
                self.assertEqual(reduced(third), power(form, count))

    def test_by_name(self):
        third, _ = composing_numbers(other=(2, 0, 7), form=(3, 2, 5))
        self.assertEqual(reduced(third), (3, -2, 5))


class OtherDiscriminantTest(unittest.TestCase):
    def check_refused(self, form, other, error, wrong):
        for function in (composed, composing_numbers):
            for call in (lambda: function(form, other), lambda: function(other=other, form=form)):
                with self.assertRaises(error) as caught:
                    call()
                self.assertIs(type(caught.exception), error)
                self.assertIs(caught.exception.given, wrong)

    def test_all_pairs_of_some_discriminants(self):
        forms = [REDUCED[discriminant][-1] for discriminant in DISCRIMINANTS[::5]]
        for form, other in itertools.permutations(forms, 2):
            self.check_refused(form, other, OtherDiscriminant, other)

    def test_one_field_two_discriminants(self):
        for form, other in (
                ((1, 0, 1), (1, 0, 4)), ((1, 1, 1), (1, 0, 3)), ((1, 1, 6), (1, 0, 23)), ((1, 0, 3), (1, 1, 7))):
            self.check_refused(form, other, OtherDiscriminant, other)
            self.check_refused(other, form, OtherDiscriminant, form)

    def test_great_ones(self):
        great = changed_by_hand((1, 0, 5), GREAT_CHANGES[0])
        self.check_refused((2, 1, 3), great, OtherDiscriminant, great)
        self.check_refused(great, (2, 1, 3), OtherDiscriminant, (2, 1, 3))

    def test_after_everything_else(self):
        for wrong in NO_FORMS:
            self.check_refused(wrong, (1, 0, 5), InvalidForm, wrong)
            self.check_refused((2, 1, 3), wrong, InvalidForm, wrong)


class PowerTest(unittest.TestCase):
    def test_against_repeated_composing(self):
        for discriminant in DISCRIMINANTS:
            one = first_by_hand(discriminant)
            for form in REDUCED[discriminant]:
                up = down = one
                for count in range(25):
                    self.assertEqual(power(form, count), up)
                    self.assertEqual(power(form, -count), down)
                    up = composed(up, form)
                    down = composed(down, opposite(form))

    def test_0_1_and_minus_1(self):
        for form in ALL_REDUCED:
            self.assertEqual(power(form, 0), first_by_hand(discriminant_by_hand(form)))
            self.assertEqual(repr(power(form, 1)), repr(form))
            self.assertEqual(power(form, -1), reduced_by_hand((form[0], -form[1], form[2])))

    def test_at_the_ends(self):
        for form in ALL_REDUCED:
            order = order_of(form)
            for count in (1000, -1000, 999, -999, 997):
                self.assertEqual(power(form, count), power(form, count % order))

    def test_known_ones(self):
        self.assertEqual(
            [power((2, 1, 3), 1000), power((2, 1, 3), -1000), power((2, 1, 3), 999), power((2, 1, 3), -1),
             power((3, 2, 5), 2), power((3, 2, 5), 1000), power((3, 2, 5), -999)],
            [(2, 1, 3), (2, -1, 3), (1, 1, 6), (2, -1, 3), (2, 0, 7), (1, 0, 14), (3, 2, 5)])

    def test_great_forms(self):
        for form in ((2, 1, 3), (3, 2, 5), (2, 1, 45), (1, 0, 1)):
            for change in GREAT_CHANGES:
                great = changed_by_hand(form, change)
                for count in (0, 1, -1, 2, 7, -8, 1000, -1000):
                    self.assertEqual(power(great, count), power(form, count))
                self.assertEqual(order_of(great), order_of(form))

    def test_by_name(self):
        self.assertEqual(power(count=-1, form=(3, 2, 5)), (3, -2, 5))

    def test_refusals(self):
        for wrong in (1001, -1001, True, False, None, "1", (1,)):
            with self.assertRaises(InvalidNumber) as caught:
                power((2, 1, 3), wrong)
            self.assertIs(caught.exception.given, wrong)


class OrderTest(unittest.TestCase):
    def test_against_repeated_composing(self):
        for form in ALL_REDUCED:
            one = first_by_hand(discriminant_by_hand(form))
            count, product = 1, form
            while product != one:
                count, product = count + 1, composed(product, form)
            self.assertEqual(repr(order_of(form)), repr(count))

    def test_divides_the_number_of_classes(self):
        for form in ALL_REDUCED:
            self.assertEqual(len(REDUCED[discriminant_by_hand(form)]) % order_of(form), 0)

    def test_known_ones(self):
        self.assertEqual(
            [order_of((1, 0, 1)), order_of((2, 1, 6)), order_of((2, 1, 9)), order_of((2, 2, 3)), order_of((2, 1, 45)),
             order_of(form=(3, -2, 5))],
            [1, 5, 7, 2, 19, 4])


class KindTest(unittest.TestCase):
    def test_counts_of_orders(self):
        for discriminant in DISCRIMINANTS:
            kind = kind_of(discriminant)
            orders = [order_of(form) for form in REDUCED[discriminant]]
            self.assertIs(type(kind), tuple)
            self.assertEqual(math.prod(kind), len(orders))
            for number in range(1, 61):
                expected = math.prod(math.gcd(part, number) for part in kind)
                self.assertEqual(sum(number % order == 0 for order in orders), expected)

    def test_each_divides_the_next(self):
        for discriminant in DISCRIMINANTS:
            kind = kind_of(discriminant)
            for part in kind:
                self.assertIs(type(part), int)
                self.assertGreater(part, 1)
            for part, next_part in zip(kind, kind[1:]):
                self.assertEqual(next_part % part, 0)

    def test_one_class(self):
        for discriminant in DISCRIMINANTS:
            self.assertEqual(kind_of(discriminant) == (), len(REDUCED[discriminant]) == 1)

    def test_cyclic(self):
        known = {-15: (2,), -23: (3,), -39: (4,), -47: (5,), -71: (7,), -87: (6,), -95: (8,), -191: (13,), -199: (9,),
                 -239: (15,), -311: (19,), -335: (18,), -356: (12,), -359: (19,), -383: (17,), -400: (4,)}
        for discriminant, kind in known.items():
            self.assertEqual(repr(kind_of(discriminant)), repr(kind))

    def test_several_parts(self):
        known = {-84: (2, 2), -96: (2, 2), -120: (2, 2), -231: (2, 6), -255: (2, 6), -260: (2, 4), -288: (2, 2),
                 -308: (2, 4), -399: (2, 8)}
        for discriminant, kind in known.items():
            self.assertEqual(repr(kind_of(discriminant)), repr(kind))

    def test_by_name(self):
        self.assertEqual(kind_of(discriminant=-84), (2, 2))


class SquaresTest(unittest.TestCase):
    def test_own_opposites(self):
        for discriminant in DISCRIMINANTS:
            expected = [(a, b, c) for a, b, c in REDUCED[discriminant] if reduced_by_hand((a, -b, c)) == (a, b, c)]
            self.assertEqual(repr(own_opposites(discriminant)), repr(tuple(expected)))

    def test_own_opposites_have_the_order_1_or_2(self):
        for discriminant in DISCRIMINANTS:
            expected = [form for form in REDUCED[discriminant] if order_of(form) in (1, 2)]
            self.assertEqual(own_opposites(discriminant), tuple(expected))

    def test_squares(self):
        for discriminant in DISCRIMINANTS:
            one_by_one = {composed(form, form) for form in REDUCED[discriminant]}
            expected = [form for form in REDUCED[discriminant] if form in one_by_one]
            self.assertEqual(repr(squares(discriminant)), repr(tuple(expected)))

    def test_numbers_of_both(self):
        for discriminant in DISCRIMINANTS:
            self.assertEqual(
                len(own_opposites(discriminant)) * len(squares(discriminant)), len(REDUCED[discriminant]))

    def test_by_name(self):
        self.assertEqual(own_opposites(discriminant=-23), ((1, 1, 6),))
        self.assertEqual(squares(discriminant=-84), ((1, 0, 21),))
