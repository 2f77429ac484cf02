"""Polynomials modulo a prime: the factors that the class polynomials have seldom, too."""

import itertools
import unittest

from classprimes import polynomials
from tests.by_berlekamp import (
    all_of_degree, is_irreducible_by_dividing, is_irreducible_by_matrix, product_by_hand, roots_by_trying)


def irreducible_ones(degree, prime):
    return [each for each in all_of_degree(degree, prime) if is_irreducible_by_dividing(each, prime)]


class FactorsTest(unittest.TestCase):
    def check(self, factors, prime):
        product = product_by_hand(factors, prime)
        expected = tuple(sorted({(each, factors.count(each)) for each in factors}))
        self.assertEqual(polynomials.factors_of(product, prime), expected)
        self.assertEqual(polynomials.roots_of_polynomial(product, prime), roots_by_trying(product, prime))

    def test_all_polynomials_of_small_degrees(self):
        for prime, highest in ((2, 7), (3, 5), (5, 3), (7, 3)):
            for degree in range(highest + 1):
                for polynomial in all_of_degree(degree, prime):
                    told = polynomials.factors_of(polynomial, prime)
                    factors = [factor for factor, exponent in told for _ in range(exponent)]
                    self.assertEqual(product_by_hand(factors, prime), polynomial)
                    self.assertEqual(told, tuple(sorted(told)))
                    for factor, _ in told:
                        self.assertTrue(is_irreducible_by_dividing(factor, prime))
                        self.assertEqual(factor[-1], 1)

    def test_products_of_many_of_one_degree(self):
        for prime, degree in ((2, 1), (2, 2), (2, 3), (2, 4), (2, 5), (3, 1), (3, 2), (3, 3), (5, 1), (5, 2), (7, 1),
                              (11, 1), (31, 1)):
            ones = irreducible_ones(degree, prime)
            self.check(ones, prime)
            for count in range(1, 4):
                for factors in itertools.islice(itertools.combinations(ones, count), 40):
                    self.check(list(factors), prime)

    def test_great_exponents(self):
        for prime in (2, 3, 5):
            for factor in irreducible_ones(1, prime) + irreducible_ones(2, prime):
                for other in irreducible_ones(1, prime) + irreducible_ones(3, prime)[:2]:
                    for exponent in (2, 3, 4, 5, 9, 10):
                        if factor != other:
                            self.check([factor] * exponent + [other], prime)

    def test_unlike_degrees(self):
        for prime in (2, 3, 5):
            ones = [irreducible_ones(degree, prime)[-1] for degree in range(1, 5)]
            self.check(ones, prime)
            self.check(ones + ones[1:3], prime)

    def test_great_primes(self):
        for prime in (101, 9973, 9967):
            for count in range(1, 21):
                self.check([(7 * count * at * at % prime, 1) for at in range(count)], prime)
        # - 1 is no square modulo 9967, so x x + m m is irreducible.
        self.check([(at * at, 0, 1) for at in range(1, 9)] + [(5, 1), (5, 1)], 9967)

    def test_what_the_tests_lean_on(self):
        for prime, highest in ((2, 6), (3, 4), (5, 3)):
            for degree in range(1, highest + 1):
                for polynomial in all_of_degree(degree, prime):
                    self.assertEqual(
                        is_irreducible_by_matrix(polynomial, prime), is_irreducible_by_dividing(polynomial, prime))
