"""Discriminants, their parts and the symbol (point 6)."""

import unittest

from classprimes.discriminants import is_discriminant, parts_of, symbol
from classprimes.errors import InvalidDiscriminant, InvalidNumber
from tests.common import DISCRIMINANTS, NO_DISCRIMINANTS, PRIMES, symbol_at_prime_by_hand, symbol_by_hand


class ExamplesTest(unittest.TestCase):
    def test_discriminants_and_parts(self):
        self.assertEqual(
            repr([is_discriminant(-23), is_discriminant(-22), is_discriminant(-404), parts_of(-12), parts_of(-96),
                  parts_of(-23)]),
            "[True, False, False, (-3, 2), (-24, 2), (-23, 1)]")

    def test_symbols(self):
        self.assertEqual(
            repr([symbol(-23, 2), symbol(-23, 5), symbol(-23, 59), symbol(-23, 23), symbol(-20, 3), symbol(-20, 9),
                  symbol(-7, 1)]),
            "[1, -1, 1, 0, 1, 1, 1]")


class IsDiscriminantTest(unittest.TestCase):
    def test_all_near_numbers(self):
        for number in range(-410, 11):
            expected = -400 <= number <= -3 and (number % 4 == 0 or number % 4 == 1)
            self.assertIs(is_discriminant(number), expected)

    def test_edges(self):
        self.assertEqual(
            [is_discriminant(number) for number in (-400, -399, -401, -404, -403, -4, -3, -2, 0, 1)],
            [True, True, False, False, False, True, True, False, False, False])

    def test_other_values(self):
        for value in NO_DISCRIMINANTS:
            self.assertIs(is_discriminant(value), False)

    def test_by_name(self):
        self.assertIs(is_discriminant(value=-23), True)


class PartsTest(unittest.TestCase):
    def is_fundamental(self, d):
        return d in DISCRIMINANTS and not any(
            d % (g * g) == 0 and (d // (g * g)) % 4 in (0, 1) for g in range(2, 21))

    def test_all(self):
        for discriminant in DISCRIMINANTS:
            pairs = [(discriminant // (f * f), f) for f in range(1, 21)
                     if discriminant % (f * f) == 0 and self.is_fundamental(discriminant // (f * f))]
            self.assertEqual(len(pairs), 1)
            self.assertEqual(repr(parts_of(discriminant)), repr(pairs[0]))

    def test_edges(self):
        self.assertEqual(
            [parts_of(-400), parts_of(-3), parts_of(-4), parts_of(-363), parts_of(-16), parts_of(-27), parts_of(-72)],
            [(-4, 10), (-3, 1), (-4, 1), (-3, 11), (-4, 2), (-3, 3), (-8, 3)])


class SymbolTest(unittest.TestCase):
    def test_at_primes(self):
        for discriminant in DISCRIMINANTS:
            for prime in PRIMES[:25]:
                self.assertEqual(repr(symbol(discriminant, prime)),
                                 repr(symbol_at_prime_by_hand(discriminant, prime)))

    def test_at_two(self):
        self.assertEqual([symbol(-7, 2), symbol(-3, 2), symbol(-4, 2), symbol(-20, 2), symbol(-15, 2), symbol(-11, 2)],
                         [1, -1, 0, 0, 1, -1])

    def test_at_primes_that_divide(self):
        for discriminant in DISCRIMINANTS:
            for prime in PRIMES[:80]:
                self.assertEqual(symbol(discriminant, prime) == 0, discriminant % prime == 0)

    def test_at_great_primes(self):
        for discriminant in (-3, -4, -23, -56, -84, -163, -399, -400):
            for prime in (9901, 9907, 9923, 9929, 9931, 9941, 9949, 9967, 9973):
                self.assertEqual(symbol(discriminant, prime), symbol_at_prime_by_hand(discriminant, prime))

    def test_at_squares(self):
        for discriminant in DISCRIMINANTS:
            for root in (2, 3, 5, 6, 7, 30, 97, 99, 100):
                expected = 0 if symbol(discriminant, root) == 0 else 1
                self.assertEqual(symbol(discriminant, root * root), expected)

    def test_at_all_small_numbers(self):
        for discriminant in (-3, -4, -7, -8, -15, -20, -23, -47, -84, -99, -400):
            for number in range(1, 200):
                self.assertEqual(symbol(discriminant, number), symbol_by_hand(discriminant, number))

    def test_at_products(self):
        for discriminant in DISCRIMINANTS:
            for number, other in ((2, 3), (4, 9), (8, 27), (5, 7), (11, 13), (59, 101), (97, 97), (125, 64), (2, 4999)):
                self.assertEqual(symbol(discriminant, number * other),
                                 symbol(discriminant, number) * symbol(discriminant, other))

    def test_at_odd_powers(self):
        self.assertEqual([symbol(-23, 125), symbol(-23, 8), symbol(-3, 8), symbol(-3, 8192), symbol(-20, 1331)],
                         [-1, 1, -1, -1, -1])

    def test_at_the_ends(self):
        for discriminant in DISCRIMINANTS:
            self.assertEqual(repr(symbol(discriminant, 1)), "1")
            expected = 0 if discriminant % 2 == 0 or discriminant % 5 == 0 else 1
            self.assertEqual(repr(symbol(discriminant, 10000)), repr(expected))

    def test_refusals(self):
        for wrong in (0, -1, 10001, True, "7"):
            with self.assertRaises(InvalidNumber) as caught:
                symbol(-23, wrong)
            self.assertIs(caught.exception.given, wrong)
        with self.assertRaises(InvalidDiscriminant) as caught:
            symbol(-22, 0)
        self.assertEqual(caught.exception.given, -22)
