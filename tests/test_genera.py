"""Residues, genera, and what residues tell of primes (points 10 and 12)."""

import math
import unittest

from classprimes.composing import composed, own_opposites, squares
from classprimes.errors import InvalidDiscriminant, InvalidNumber
from classprimes.genera import do_residues_tell, genera, residues_of, twins
from tests.common import (
    ALL_REDUCED, CHANGES, DISCRIMINANTS, GREAT_CHANGES, PRIMES, REDUCED, changed_by_hand, first_by_hand, is_prime,
    reduced_by_hand, values_by_hand)

TELLING = [discriminant for discriminant in DISCRIMINANTS
           if all(reduced_by_hand((a, -b, c)) == (a, b, c) for a, b, c in REDUCED[discriminant])]
OTHERS = [discriminant for discriminant in DISCRIMINANTS if discriminant not in TELLING]


def residues_by_hand(form):
    """The residues that all values leave; - x, - y have the value of x, y."""
    a, b, c = form
    size = 4 * a * c - b * b
    left = {(a * x * x + b * x * y + c * y * y) % size for x in range(size) for y in range(size // 2 + 1)}
    return tuple(sorted(residue for residue in left if math.gcd(residue, size) == 1))


class ExamplesTest(unittest.TestCase):
    def test_residues(self):
        self.assertEqual(
            repr([residues_of((1, 0, 5)), residues_of((2, 2, 3)), residues_of((3, 2, 5)), residues_of((1, 0, 1))]),
            "[(1, 9), (3, 7), (3, 5, 13, 19, 27, 45), (1,)]")

    def test_genera(self):
        self.assertEqual(
            repr(genera(-56)),
            "(((1, 9, 15, 23, 25, 39), ((1, 0, 14), (2, 0, 7))), ((3, 5, 13, 19, 27, 45), ((3, -2, 5), (3, 2, 5))))")

    def test_telling(self):
        self.assertEqual(
            repr([do_residues_tell(-20), do_residues_tell(-56), do_residues_tell(-23), do_residues_tell(-84),
                  twins(-20, 100)]),
            "[True, False, False, True, None]")

    def test_twins(self):
        one, two = twins(-56, 56)
        self.assertEqual(repr([(one - two) % 56, one == two, one % 7 != 0, two % 7 != 0]), "[0, False, True, True]")


class ResiduesTest(unittest.TestCase):
    def test_against_all_values(self):
        for form in ALL_REDUCED:
            self.assertEqual(repr(residues_of(form)), repr(residues_by_hand(form)))

    def test_how_many(self):
        # Each genus has as many of those without a common divisor for which the symbol is 1.
        for discriminant in DISCRIMINANTS:
            units = sum(math.gcd(residue, discriminant) == 1 for residue in range(-discriminant))
            for form in REDUCED[discriminant]:
                self.assertEqual(2 * len(residues_of(form)) * len(own_opposites(discriminant)), units)

    def test_same_or_none_in_common(self):
        for discriminant in DISCRIMINANTS:
            told = {residues_of(form) for form in REDUCED[discriminant]}
            together = [residue for residues in told for residue in residues]
            self.assertEqual(len(together), len(set(together)))

    def test_forms_that_are_not_reduced(self):
        for form in ((1, 0, 1), (1, 1, 1), (2, 2, 3), (3, 2, 5), (5, 1, 20), (2, 1, 3), (10, 10, 11), (3, 0, 7)):
            for change in CHANGES[::9] + GREAT_CHANGES:
                self.assertEqual(residues_of(changed_by_hand(form, change)), residues_of(form))

    def test_products(self):
        for discriminant in (-56, -84, -231, -399):
            for form in REDUCED[discriminant]:
                for other in REDUCED[discriminant]:
                    product = residues_of(form)[0] * residues_of(other)[-1] % -discriminant
                    self.assertIn(product, residues_of(composed(form, other)))

    def test_by_name(self):
        self.assertEqual(residues_of(form=(2, 2, 3)), (3, 7))


class GeneraTest(unittest.TestCase):
    def test_against_the_residues_of_each_form(self):
        for discriminant in DISCRIMINANTS:
            residues = {form: residues_of(form) for form in REDUCED[discriminant]}
            expected = [
                (told, tuple(form for form in REDUCED[discriminant] if residues[form] == told))
                for told in sorted(set(residues.values()))]
            self.assertEqual(repr(genera(discriminant)), repr(tuple(expected)))

    def test_ascending(self):
        for discriminant in DISCRIMINANTS:
            told = genera(discriminant)
            self.assertEqual(list(told), sorted(told))
            for residues, forms in told:
                self.assertEqual(list(residues), sorted(set(residues)))
                self.assertEqual(list(forms), sorted(set(forms)))
                self.assertTrue(0 <= residues[0] and residues[-1] < -discriminant)

    def test_all_classes_once(self):
        for discriminant in DISCRIMINANTS:
            forms = [form for _, genus in genera(discriminant) for form in genus]
            self.assertEqual(sorted(forms), REDUCED[discriminant])

    def test_one_size_and_how_many(self):
        for discriminant in DISCRIMINANTS:
            told = genera(discriminant)
            self.assertEqual(len({len(forms) for _, forms in told}), 1)
            self.assertEqual(len(told), len(own_opposites(discriminant)))

    def test_first_one_has_the_squares(self):
        for discriminant in DISCRIMINANTS:
            residues, forms = genera(discriminant)[0]
            self.assertEqual(forms, squares(discriminant))
            self.assertEqual(residues[0], 1)
            self.assertIn(first_by_hand(discriminant), forms)

    def test_every_size(self):
        shapes = {(len(genera(discriminant)), len(genera(discriminant)[0][1])) for discriminant in DISCRIMINANTS}
        self.assertEqual(
            shapes,
            {(1, size) for size in (1, 3, 5, 7, 9, 11, 13, 15, 17, 19)}
            | {(2, size) for size in (1, 2, 3, 4, 5, 6, 7, 9)} | {(4, size) for size in (1, 2, 3, 4)})

    def test_known_ones(self):
        self.assertEqual(genera(-3), (((1,), ((1, 1, 1),)),))
        self.assertEqual(genera(-4), (((1,), ((1, 0, 1),)),))
        self.assertEqual(genera(-20), (((1, 9), ((1, 0, 5),)), ((3, 7), ((2, 2, 3),))))
        self.assertEqual(genera(discriminant=-15), (((1, 4), ((1, 1, 4),)), ((2, 8), ((2, 1, 2),))))
        self.assertEqual(
            genera(-23),
            (((1, 2, 3, 4, 6, 8, 9, 12, 13, 16, 18), ((1, 1, 6), (2, -1, 3), (2, 1, 3))),))

    def test_primes_leave_residues_of_their_genus(self):
        for discriminant in (-15, -23, -56, -84, -96, -231, -260, -399):
            told = genera(discriminant)
            taken = {form: values_by_hand(form, 2000) for form in REDUCED[discriminant]}
            for prime in PRIMES[:300]:
                if discriminant % prime:
                    for residues, forms in told:
                        if prime % -discriminant in residues:
                            self.assertTrue(any(prime in taken[form] for form in forms))
                        else:
                            self.assertFalse(any(prime in taken[form] for form in forms))


class TellTest(unittest.TestCase):
    def test_against_own_opposites(self):
        for discriminant in DISCRIMINANTS:
            self.assertIs(do_residues_tell(discriminant), discriminant in TELLING)

    def test_against_genera(self):
        for discriminant in DISCRIMINANTS:
            self.assertIs(do_residues_tell(discriminant), len(genera(discriminant)[0][1]) == 1)

    def test_convenient_numbers(self):
        convenient = [number for number in range(1, 101) if do_residues_tell(-4 * number)]
        self.assertEqual(
            convenient,
            [1, 2, 3, 4, 5, 6, 7, 8, 9, 10, 12, 13, 15, 16, 18, 21, 22, 24, 25, 28, 30, 33, 37, 40, 42, 45, 48, 57, 58,
             60, 70, 72, 78, 85, 88, 93])

    def test_residues_do_tell_primes(self):
        for discriminant in TELLING:
            first = first_by_hand(discriminant)
            taken = values_by_hand(first, 1500)
            residues = residues_of(first)
            for prime in PRIMES[:230]:
                if discriminant % prime:
                    self.assertEqual(prime % -discriminant in residues, prime in taken)

    def test_by_name(self):
        self.assertIs(do_residues_tell(discriminant=-20), True)


class TwinsTest(unittest.TestCase):
    def check_twins(self, discriminant, number, genus):
        told = twins(discriminant, number)
        self.assertEqual((type(told), [type(part) for part in told]), (tuple, [int, int]))
        one, two = told
        for prime in told:
            self.assertTrue(1 < prime <= 10 ** 6 and is_prime(prime) and discriminant % prime != 0)
        self.assertEqual((one - two) % number, 0)
        first = first_by_hand(discriminant)
        self.assertIn(one, values_by_hand(first, one))
        self.assertNotIn(two, values_by_hand(first, two))
        self.assertTrue(any(two in values_by_hand(form, two) for form in genus if form != first))

    def test_several_moduli(self):
        for discriminant in OTHERS:
            genus = genera(discriminant)[0][1]
            for number in (1, 2, 60, 1000):
                self.check_twins(discriminant, number, genus)

    def test_the_discriminant_itself_and_great_primes(self):
        for discriminant in OTHERS[::7]:
            genus = genera(discriminant)[0][1]
            for number in (-discriminant, 997, 991, 840, 999, 512):
                self.check_twins(discriminant, number, genus)

    def test_all_moduli(self):
        for discriminant in (-23, -56):
            genus = genera(discriminant)[0][1]
            for number in range(1, 121):
                self.check_twins(discriminant, number, genus)

    def test_where_residues_tell(self):
        for discriminant in TELLING:
            for number in (1, 2, 60, 1000, -discriminant):
                self.assertIs(twins(discriminant, number), None)

    def test_equal_calls(self):
        self.assertEqual(twins(-56, 60), twins(number=60, discriminant=-56))

    def test_refusals(self):
        for discriminant in (-23, -20):
            for wrong in (0, -1, 1001, True, None, "7"):
                with self.assertRaises(InvalidNumber) as caught:
                    twins(discriminant, wrong)
                self.assertIs(caught.exception.given, wrong)
        with self.assertRaises(InvalidDiscriminant) as caught:
            twins(-22, 0)
        self.assertEqual(caught.exception.given, -22)
