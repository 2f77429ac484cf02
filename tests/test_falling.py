"""How the class polynomial falls apart modulo a prime (points 14 and 15)."""

import unittest

from classprimes.composing import own_opposites
from classprimes.errors import InvalidDiscriminant, InvalidPrime
from classprimes.falling import does_fall_wholly, factors, roots
from classprimes.primes import first_prime, order_at
from classprimes.singular import class_polynomial
from tests.by_berlekamp import is_irreducible_by_hand, product_by_hand, roots_by_trying
from tests.common import (
    DISCRIMINANTS, NO_DISCRIMINANTS, NO_PRIMES, PRIMES, REDUCED, first_by_hand, symbol_at_prime_by_hand, values_by_hand)


def primes_for(place, discriminant):
    """Small primes, those that divide, some great ones, and one that the first form takes."""
    great = [PRIMES[(37 * place + 211 * count) % len(PRIMES)] for count in range(3)]
    dividing = [prime for prime in PRIMES[:80] if discriminant % prime == 0]
    return sorted({*PRIMES[:5], PRIMES[5 + place % 60], *dividing, *great, first_prime(first_by_hand(discriminant))})


CASES = [(discriminant, prime) for place, discriminant in enumerate(DISCRIMINANTS)
         for prime in primes_for(place, discriminant)]
# Of one class and of the most classes: these with more primes.
CASES += [(discriminant, prime) for discriminant in (-3, -4, -163, -20, -84, -311, -359, -399)
          for prime in PRIMES[6:40] + [9923, 9929, 9931, 9941, 9949, 9967, 9973]]


class ExamplesTest(unittest.TestCase):
    def test_factors_and_roots(self):
        self.assertEqual(
            repr([factors(-23, 2), factors(-23, 5), factors(-23, 13), factors(-20, 29), roots(-23, 59), roots(-56, 23),
                  roots(-56, 5)]),
            "[(((1, 1, 0, 1), 1),), (((0, 1), 3),), (((1, 3, 2, 1), 1),), (((6, 1), 1), ((17, 1), 1)), (20, 42, 44), "
            "(14, 18, 20, 22), ()]")

    def test_falling(self):
        self.assertEqual(
            repr([does_fall_wholly(-23, 59), does_fall_wholly(-23, 5), does_fall_wholly(-23, 2),
                  does_fall_wholly(-7, 3)]),
            "[True, False, False, True]")


class FactorsTest(unittest.TestCase):
    @classmethod
    def setUpClass(cls):
        cls.told = {(discriminant, prime): factors(discriminant, prime) for discriminant, prime in CASES}

    def test_form(self):
        for (_, prime), told in self.told.items():
            self.assertIs(type(told), tuple)
            for pair in told:
                self.assertEqual((type(pair), len(pair)), (tuple, 2))
                coefficients, exponent = pair
                self.assertEqual((type(coefficients), type(exponent)), (tuple, int))
                self.assertGreaterEqual(exponent, 1)
                self.assertEqual({type(number) for number in coefficients}, {int})
                self.assertTrue(all(0 <= number < prime for number in coefficients))
                self.assertEqual(coefficients[-1], 1)
                self.assertGreater(len(coefficients), 1)
            self.assertTrue(all(one[0] < other[0] for one, other in zip(told, told[1:])))

    def test_multiplied_out(self):
        for (discriminant, prime), told in self.told.items():
            product = product_by_hand([factor for factor, exponent in told for _ in range(exponent)], prime)
            self.assertEqual(product, tuple(number % prime for number in class_polynomial(discriminant)))

    def test_each_is_irreducible(self):
        for place, ((discriminant, prime), told) in enumerate(self.told.items()):
            for factor, _ in told:
                # The matrix takes its time for great primes.
                if (len(factor) - 1) ** 2 * prime < 3000 or place % 40 == 0:
                    self.assertTrue(is_irreducible_by_hand(factor, prime), (discriminant, prime, factor))

    def test_roots(self):
        for discriminant, prime in CASES:
            found = roots_by_trying([number % prime for number in class_polynomial(discriminant)], prime)
            self.assertEqual(repr(roots(discriminant, prime)), repr(found))
            wholly = len(found) == len(REDUCED[discriminant])
            self.assertIs(does_fall_wholly(discriminant, prime), wholly)
            told = self.told[discriminant, prime]
            self.assertEqual(all(len(factor) == 2 and exponent == 1 for factor, exponent in told), wholly)
            self.assertEqual(tuple(sorted(-factor[0] % prime for factor, _ in told if len(factor) == 2)), found)

    def test_the_symbol_1(self):
        seen = set()
        for (discriminant, prime), told in self.told.items():
            if symbol_at_prime_by_hand(discriminant, prime) == 1:
                order = order_at(discriminant, prime)
                seen.add(order)
                self.assertEqual({(len(factor) - 1, exponent) for factor, exponent in told}, {(order, 1)})
                self.assertEqual(len(told) * order, len(REDUCED[discriminant]))
        self.assertLessEqual({1, 2, 3, 4, 5, 6, 7, 8, 9, 10, 19}, seen)

    def test_the_symbol_less_than_0(self):
        seen = set()
        for (discriminant, prime), told in self.told.items():
            if symbol_at_prime_by_hand(discriminant, prime) == -1:
                self.assertLessEqual({len(factor) - 1 for factor, _ in told}, {1, 2})
                if all(exponent == 1 for _, exponent in told):
                    single = len([factor for factor, _ in told if len(factor) == 2])
                    self.assertIn(single, (0, len(own_opposites(discriminant))))
                    seen.add(single)
        self.assertLessEqual({0, 1, 2, 4}, seen)

    def test_the_first_form(self):
        for discriminant in DISCRIMINANTS[::5] + [-4, -3]:
            first = first_by_hand(discriminant)
            taken = values_by_hand(first, 700)
            for prime in PRIMES[:80:3] + [first_prime(first)]:
                if symbol_at_prime_by_hand(discriminant, prime) == 1:
                    self.assertIs(does_fall_wholly(discriminant, prime), prime in taken)
                    self.assertEqual(roots(discriminant, prime) != (), prime in taken)

    def test_primes_that_divide_the_discriminant(self):
        self.assertEqual(
            [factors(-23, 23), factors(-4, 2), factors(-3, 3), factors(-20, 5), factors(-20, 2), roots(-20, 5),
             does_fall_wholly(-4, 2), factors(-400, 5), factors(-388, 97)],
            [(((4, 1), 2), ((20, 1), 1)), (((0, 1), 1),), (((0, 1), 1),), (((0, 1), 2),), (((0, 1), 2),), (0,), True,
             (((4, 1), 4),), (((77, 1), 2), ((96, 1), 2))])

    def test_by_name(self):
        self.assertEqual(factors(prime=2, discriminant=-23), (((1, 1, 0, 1), 1),))
        self.assertEqual(roots(prime=59, discriminant=-23), (20, 42, 44))
        self.assertIs(does_fall_wholly(prime=59, discriminant=-23), True)

    def test_refusals(self):
        for function in (factors, roots, does_fall_wholly):
            for wrong in NO_DISCRIMINANTS[::5]:
                with self.assertRaises(InvalidDiscriminant) as caught:
                    function(wrong, 4)
                self.assertIs(caught.exception.given, wrong)
            for wrong in NO_PRIMES[::3]:
                with self.assertRaises(InvalidPrime) as caught:
                    function(-23, wrong)
                self.assertIs(caught.exception.given, wrong)
