"""The invariant of a form and the class polynomial (point 13)."""

import math
import unittest
from fractions import Fraction

from classprimes.errors import InvalidDiscriminant, InvalidForm, InvalidNumber
from classprimes.primes import first_prime
from classprimes.singular import class_polynomial, invariant
from tests.by_decimal import invariant_by_decimal, polynomial_by_decimal
from tests.common import (
    ALL_REDUCED, CHANGES, DISCRIMINANTS, GREAT_CHANGES, PRIMES, REDUCED, changed_by_hand, first_by_hand,
    reduced_by_hand, symbol_at_prime_by_hand, values_by_hand)

WITH_ONE_CLASS = {
    -3: 0, -4: 1728, -7: -3375, -8: 8000, -11: -32768, -12: 54000, -16: 287496, -19: -884736, -27: -12288000,
    -28: 16581375, -43: -884736000, -67: -147197952000, -163: -262537412640768000}
# From the power of the degree down, as books tell them.
KNOWN = {
    -15: (1, 191025, -121287375),
    -20: (1, -1264000, -681472000),
    -23: (1, 3491750, -5151296875, 12771880859375),
    -24: (1, -4834944, 14670139392),
    -31: (1, 39491307, -58682638134, 1566028350940383),
    -32: (1, -52250000, 12167000000),
    -35: (1, 117964800, -134217728000),
    -36: (1, -153542016, -1790957481984),
    -39: (1, 331531596, -429878960946, 109873509788637459, 20919104368024767633),
    -40: (1, -425692800, 9103145472000),
    -47: (1, 2257834125, -9987963828125, 5115161850595703125, -14982472850828613281250, 16042929600623870849609375),
    -71: (1, 313645809715, -3091990138604570, 98394038810047812049302, -823534263439730779968091389,
          5138800366453976780323726329446, -425319473946139603274605151187659, 737707086760731113357714241006081263),
}
# More than an enclosure of 30 digits shows, less than the decimals are wrong.
LITTLE = Fraction(1, 10 ** 60)
INVARIANTS = {form: tuple(map(Fraction, invariant_by_decimal(form))) for form in ALL_REDUCED}


class ExamplesTest(unittest.TestCase):
    def test_polynomials(self):
        self.assertEqual(
            repr([class_polynomial(-4), class_polynomial(-3), class_polynomial(-7), class_polynomial(-163),
                  class_polynomial(-20), class_polynomial(-23)]),
            "[(-1728, 1), (0, 1), (3375, 1), (262537412640768000, 1), (-681472000, -1264000, 1), "
            "(12771880859375, -5151296875, 3491750, 1)]")

    def test_invariant(self):
        real, other = invariant((1, 0, 1), 3)
        low, high = real
        left, right = other
        self.assertEqual(
            repr([low[0] <= 1728 * low[1], 1728 * high[1] <= high[0], left[0] <= 0 <= right[0],
                  (high[0] * low[1] - low[0] * high[1]) * 1000 <= low[1] * high[1]]),
            "[True, True, True, True]")


class InvariantTest(unittest.TestCase):
    def check_enclosure(self, enclosure, count, number):
        self.assertEqual((type(enclosure), len(enclosure)), (tuple, 2))
        for part in enclosure:
            self.assertEqual((type(part), [type(each) for each in part]), (tuple, [int, int]))
            self.assertGreater(part[1], 0)
            self.assertEqual(math.gcd(part[0], part[1]), 1)
        low, high = Fraction(*enclosure[0]), Fraction(*enclosure[1])
        self.assertLessEqual(low, high)
        self.assertLessEqual(high - low, Fraction(1, 10 ** count))
        self.assertLessEqual(low, number + LITTLE)
        self.assertGreaterEqual(high, number - LITTLE)
        return low, high

    def check_invariant(self, form, count, point):
        told = invariant(form, count)
        self.assertEqual((type(told), len(told)), (tuple, 2))
        return [self.check_enclosure(enclosure, count, number) for enclosure, number in zip(told, point)]

    def test_all_reduced_forms(self):
        for form in ALL_REDUCED:
            self.check_invariant(form, 30, INVARIANTS[form])

    def test_all_numbers_of_digits(self):
        for form in REDUCED[-23] + REDUCED[-4] + REDUCED[-3] + REDUCED[-163] + REDUCED[-400] + REDUCED[-399][:5]:
            for count in range(31):
                self.check_invariant(form, count, INVARIANTS[form])

    def test_no_digits(self):
        for form in ALL_REDUCED[::7]:
            self.check_invariant(form, 0, INVARIANTS[form])

    def test_one_class(self):
        for discriminant, number in WITH_ONE_CLASS.items():
            for count in range(31):
                real, other = self.check_invariant(first_by_hand(discriminant), count, (number, 0))
                self.assertTrue(real[0] <= number <= real[1])
                self.assertTrue(other[0] <= 0 <= other[1])

    def test_own_opposites_are_real(self):
        for a, b, c in ALL_REDUCED:
            if reduced_by_hand((a, -b, c)) == (a, b, c):
                for count in (0, 12, 30):
                    low, high = invariant((a, b, c), count)[1]
                    self.assertTrue(low[0] <= 0 <= high[0])

    def test_the_others_are_not(self):
        for a, b, c in ALL_REDUCED:
            if reduced_by_hand((a, -b, c)) != (a, b, c):
                low, high = invariant((a, b, c), 3)[1]
                self.assertFalse(low[0] <= 0 <= high[0])

    def test_unlike_forms_have_unlike_invariants(self):
        for discriminant in DISCRIMINANTS:
            told = [[Fraction(*end) for enclosure in invariant(form, 6) for end in enclosure]
                    for form in REDUCED[discriminant]]
            for place, one in enumerate(told):
                for other in told[place + 1:]:
                    self.assertTrue(one[1] < other[0] or other[1] < one[0] or one[3] < other[2] or other[3] < one[2])

    def test_alike_forms(self):
        for form in ((1, 1, 6), (2, 1, 3), (2, -1, 3), (3, 2, 5), (1, 0, 1), (1, 1, 1), (10, 10, 11), (1, 1, 41)):
            for change in CHANGES[::23] + GREAT_CHANGES:
                for count in (0, 20, 30):
                    self.check_invariant(changed_by_hand(form, change), count, INVARIANTS[form])

    def test_opposites(self):
        for a, b, c in ALL_REDUCED[::5]:
            x, y = INVARIANTS[a, b, c]
            self.check_invariant((a, -b, c), 25, (x, -y))
            for change in GREAT_CHANGES[:2]:
                great = changed_by_hand((a, b, c), change)
                self.check_invariant((great[0], -great[1], great[2]), 30, (x, -y))

    def test_sign_of_the_imaginary_part(self):
        # q of (2, 1, 3) has an argument of - 90 degrees, and j is about 1 / q: above 0.
        low, _ = invariant((2, 1, 3), 5)[1]
        _, high = invariant((2, -1, 3), 5)[1]
        self.assertGreater(low[0], 0)
        self.assertLess(high[0], 0)

    def test_equal_calls_and_names(self):
        self.assertEqual(invariant((2, 1, 3), 9), invariant(count=9, form=(2, 1, 3)))

    def test_refusals(self):
        for wrong in (-1, 31, True, False, None, "3", (3,)):
            with self.assertRaises(InvalidNumber) as caught:
                invariant((1, 0, 1), wrong)
            self.assertIs(caught.exception.given, wrong)
        with self.assertRaises(InvalidForm) as caught:
            invariant((2, 0, 2), 31)
        self.assertEqual(caught.exception.given, (2, 0, 2))


class PolynomialTest(unittest.TestCase):
    def test_one_class(self):
        for discriminant, number in WITH_ONE_CLASS.items():
            self.assertEqual(repr(class_polynomial(discriminant)), repr((-number, 1)))

    def test_known_ones(self):
        for discriminant, coefficients in KNOWN.items():
            self.assertEqual(repr(class_polynomial(discriminant)), repr(coefficients[::-1]))

    def test_degree(self):
        for discriminant in DISCRIMINANTS:
            told = class_polynomial(discriminant)
            self.assertIs(type(told), tuple)
            self.assertEqual({type(number) for number in told}, {int})
            self.assertEqual(len(told), len(REDUCED[discriminant]) + 1)
            self.assertEqual(told[-1], 1)

    def test_against_decimals(self):
        for discriminant in DISCRIMINANTS:
            coefficients, error = polynomial_by_decimal(discriminant)
            self.assertLess(error, 1e-50)
            self.assertEqual(class_polynomial(discriminant), coefficients)

    def test_with_the_most_classes(self):
        for discriminant in (-311, -359):
            told = class_polynomial(discriminant)
            self.assertEqual(len(told), 20)
            # The sum of the invariants, and their product but for its sign.
            total = sum(INVARIANTS[form][0] for form in REDUCED[discriminant])
            self.assertLess(abs(told[-2] + total), LITTLE)

    def roots_by_hand(self, coefficients, prime):
        found = []
        for residue in range(prime):
            value = 0
            for number in reversed(coefficients):
                value = (value * residue + number) % prime
            if value == 0:
                found.append(residue)
        return found

    def test_has_all_roots_modulo_primes_of_the_first_form(self):
        for discriminant in DISCRIMINANTS:
            told = class_polynomial(discriminant)
            prime = first_prime(first_by_hand(discriminant))
            self.assertEqual(len(self.roots_by_hand(told, prime)), len(told) - 1)

    def test_the_first_form_takes_a_prime_exactly_if_there_is_a_root(self):
        for discriminant in DISCRIMINANTS[::3]:
            told = class_polynomial(discriminant)
            taken = values_by_hand(first_by_hand(discriminant), 130)
            for prime in PRIMES[:30]:
                if symbol_at_prime_by_hand(discriminant, prime) == 1:
                    self.assertEqual(self.roots_by_hand(told, prime) != [], prime in taken)

    def test_equal_calls_and_names(self):
        self.assertEqual(class_polynomial(-23), class_polynomial(discriminant=-23))

    def test_refusals(self):
        for wrong in (-22, -2, 0, -401, -404, True, None, "-23", (-23,)):
            with self.assertRaises(InvalidDiscriminant) as caught:
                class_polynomial(wrong)
            self.assertIs(caught.exception.given, wrong)
