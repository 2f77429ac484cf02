"""Hurwitz numbers and their sums (point 17)."""

import math
import unittest
from fractions import Fraction

from classprimes.counts import hurwitz
from classprimes.errors import InvalidNumber
from tests.common import DISCRIMINANTS, NO_NUMBERS_FROM_0, REDUCED

WEIGHTS = {"thirds": Fraction(1, 3), "halves": Fraction(1, 2)}


def weight(a, b, c):
    if a == b == c:
        return WEIGHTS["thirds"]
    return WEIGHTS["halves"] if (a, b) == (c, 0) else 1


def is_reduced_triple(a, b, c):
    if not (-a <= b <= a <= c):
        return False
    return b >= 0 if abs(b) == a or a == c else True


def table_of_triples(highest):
    """The Hurwitz numbers up to the highest one, by looking at all triples."""
    table = [Fraction(0)] * (highest + 1)
    # 4 a c - b b is at least 3 a a and at least 3 a c.
    for a in range(1, math.isqrt(highest // 3) + 1):
        for c in range(a, highest // (3 * a) + 1):
            for b in range(-a, a + 1):
                number = 4 * a * c - b * b
                if number <= highest and is_reduced_triple(a, b, c):
                    table[number] += weight(a, b, c)
    return table


def hurwitz_by_divisors(number):
    """The triples with this number, from b and the divisors of a c."""
    total = Fraction(0)
    for b in range(-math.isqrt(number // 3), math.isqrt(number // 3) + 1):
        if (number + b * b) % 4 == 0:
            both = (number + b * b) // 4
            total += sum(weight(a, b, both // a) for a in range(1, math.isqrt(both) + 1)
                         if both % a == 0 and is_reduced_triple(a, b, both // a))
    return total


class ExamplesTest(unittest.TestCase):
    def test_hurwitz(self):
        self.assertEqual(
            repr([hurwitz(0), hurwitz(3), hurwitz(4), hurwitz(7), hurwitz(8), hurwitz(12), hurwitz(16), hurwitz(23),
                  hurwitz(27), hurwitz(5)]),
            "[(-1, 12), (1, 3), (1, 2), (1, 1), (1, 1), (4, 3), (3, 2), (3, 1), (4, 3), (0, 1)]")


class HurwitzTest(unittest.TestCase):
    def check(self, number, expected):
        self.assertEqual(repr(hurwitz(number)), repr((expected.numerator, expected.denominator)))

    def test_by_all_triples(self):
        for number, expected in enumerate(table_of_triples(1500)):
            if number > 0:
                self.check(number, expected)

    def test_great_numbers(self):
        for number in (*range(5000, 5040), *range(9900, 10001), 3 * 57 ** 2, 3 * 56 ** 2, 4 * 49 ** 2, 4 * 50 ** 2):
            self.check(number, Fraction(hurwitz_by_divisors(number)))

    def test_nought(self):
        self.assertEqual(repr(hurwitz(0)), "(-1, 12)")

    def test_none_for_1_and_2_modulo_4(self):
        for number in range(0, 10000, 4):
            self.assertEqual((hurwitz(number + 1), hurwitz(number + 2)), ((0, 1), (0, 1)))

    def test_classes_of_all_parts(self):
        # Each triple is a number times a FORM.
        for discriminant in DISCRIMINANTS:
            total = Fraction(0)
            for n in range(1, 12):
                part, rest = divmod(discriminant, n * n)
                if rest == 0 and part in REDUCED:
                    total += len(REDUCED[part]) * {-3: Fraction(1, 3), -4: Fraction(1, 2)}.get(part, 1)
            self.check(-discriminant, Fraction(total))

    def test_sums(self):
        kept = {}
        for n in [*range(1, 121), *range(600, 612), 1999, 2310, *range(2490, 2501)]:
            total = Fraction(0)
            for t in range(-math.isqrt(4 * n), math.isqrt(4 * n) + 1):
                number = 4 * n - t * t
                if number not in kept:
                    kept[number] = Fraction(*hurwitz(number))
                total += kept[number]
            divisors = [d for d in range(1, n + 1) if n % d == 0]
            self.assertEqual(total, 2 * sum(divisors) - sum(min(d, n // d) for d in divisors))

    def test_by_name(self):
        self.assertEqual(hurwitz(number=12), (4, 3))

    def test_refusals(self):
        for wrong in NO_NUMBERS_FROM_0:
            with self.assertRaises(InvalidNumber) as caught:
                hurwitz(wrong)
            self.assertIs(caught.exception.given, wrong)
        self.assertEqual(hurwitz(10000)[1], 2)
