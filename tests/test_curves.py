"""Curves over a prime: points, traces, invariants, how many there are, discriminants (point 18)."""

import math
import unittest
from fractions import Fraction

from classprimes.counts import hurwitz
from classprimes.curves import curve_with, curves_with, discriminant_of_curve, invariant_of, points_of
from classprimes.errors import InvalidCurve, InvalidNumber, InvalidPrime
from classprimes.singular import class_polynomial
from tests.by_berlekamp import value_by_horner
from tests.common import DISCRIMINANTS, NO_NUMBERS, NO_PRIMES, PRIMES

FIELDS = [prime for prime in PRIMES if 5 <= prime <= 1000]
SMALL = FIELDS[:9]
POLYNOMIALS = {discriminant: class_polynomial(discriminant) for discriminant in DISCRIMINANTS}


def curves_by_hand(prime):
    return [(a, b) for a in range(prime) for b in range(prime) if (4 * a ** 3 + 27 * b * b) % prime]


def points_by_hand(prime, curve):
    """By trying all pairs."""
    a, b = curve
    right = [(x ** 3 + a * x + b) % prime for x in range(prime)]
    left = [y * y % prime for y in range(prime)]
    return 1 + sum(one == other for one in right for other in left)


def invariant_by_hand(prime, curve):
    """By trying all residues."""
    a, b = curve
    fitting = [j for j in range(prime) if (j * (4 * a ** 3 + 27 * b * b) - 1728 * 4 * a ** 3) % prime == 0]
    assert len(fitting) == 1
    return fitting[0]


TABLES = {prime: {curve: points_by_hand(prime, curve) for curve in curves_by_hand(prime)} for prime in SMALL}


class ExamplesTest(unittest.TestCase):
    def test_points_and_invariants(self):
        self.assertEqual(
            repr([points_of(59, (2, 3)), invariant_of(59, (2, 3)), discriminant_of_curve(59, (2, 3)),
                  points_of(7, (1, 0)), points_of(7, (0, 3)), discriminant_of_curve(7, (1, 0))]),
            "[72, 20, -23, 8, 13, None]")

    def test_counts(self):
        self.assertEqual(
            repr([curves_with(59, 72), curves_with(7, 13), curves_with(7, 14), curve_with(7, 14),
                  points_of(59, curve_with(59, 48))]),
            "[174, 1, 0, None, 48]")


class PointsTest(unittest.TestCase):
    def test_all_curves_of_small_primes(self):
        for prime, table in TABLES.items():
            for curve, points in table.items():
                self.assertEqual(repr(points_of(prime, curve)), repr(points))
                self.assertLessEqual((prime + 1 - points) ** 2, 4 * prime)

    def test_great_primes(self):
        for prime in (101, 499, 983, 991, 997):
            for curve in ((0, 1), (1, 0), (prime - 1, 0), (0, prime - 1), (3, 4), (prime - 3, 5), (17, prime - 1)):
                points = points_of(prime, curve)
                self.assertEqual(points, points_by_hand(prime, curve))
                self.assertLessEqual((prime + 1 - points) ** 2, 4 * prime)

    def test_by_name(self):
        self.assertEqual(points_of(curve=(2, 3), prime=59), 72)


class InvariantTest(unittest.TestCase):
    def test_multiplied_out(self):
        for prime in SMALL:
            for curve in TABLES[prime]:
                told = invariant_of(prime, curve)
                self.assertIs(type(told), int)
                self.assertEqual(told, invariant_by_hand(prime, curve))

    def test_great_primes(self):
        for prime in FIELDS[9::9] + [991, 997]:
            for curve in ((0, 1), (1, 0), (prime - 1, prime - 1), (2, prime // 2), (prime // 3, 5)):
                if (4 * curve[0] ** 3 + 27 * curve[1] ** 2) % prime:
                    self.assertEqual(invariant_of(prime, curve), invariant_by_hand(prime, curve))

    def test_by_name(self):
        self.assertEqual(invariant_of(curve=(2, 3), prime=59), 20)


class CountsTest(unittest.TestCase):
    def test_all_numbers_for_small_primes(self):
        for prime, table in TABLES.items():
            points = list(table.values())
            for number in [*range(2 * prime + 20), 1999, 2000]:
                told = curves_with(prime, number)
                self.assertEqual(repr(told), repr(points.count(number)))
                rest = 4 * prime - (prime + 1 - number) ** 2
                expected = Fraction(prime - 1, 2) * Fraction(*hurwitz(rest)) if rest >= 0 else 0
                self.assertEqual(told, expected)
                self.check_curve_with(prime, number, number in points)

    def check_curve_with(self, prime, number, is_there):
        curve = curve_with(prime, number)
        if not is_there:
            self.assertIs(curve, None)
            return
        self.assertEqual((type(curve), [type(part) for part in curve]), (tuple, [int, int]))
        a, b = curve
        self.assertTrue(0 <= a < prime and 0 <= b < prime and (4 * a ** 3 + 27 * b * b) % prime)
        points = TABLES[prime][curve] if prime in TABLES else points_of(prime, curve)
        self.assertEqual(points, number)

    def test_all_curves_together(self):
        for prime in FIELDS[9::30] + [997]:
            total = sum(curves_with(prime, number) for number in range(2001))
            # p p pairs, of which p are no CURVEs: (- 3 t t, 2 t t t) for all t.
            self.assertEqual(total, prime * prime - prime)

    def test_near_the_bounds(self):
        for prime in FIELDS[9::6] + [983, 991, 997]:
            reach = math.isqrt(4 * prime)
            for trace in (-reach - 1, -reach, reach, reach + 1):
                self.check_curve_with(prime, prime + 1 - trace, abs(trace) <= reach)
                self.assertEqual(curves_with(prime, prime + 1 - trace) > 0, abs(trace) <= reach)

    def test_all_traces(self):
        for prime in (37, 61, 103, 199):
            reach = math.isqrt(4 * prime)
            for trace in range(-reach - 3, reach + 4):
                self.check_curve_with(prime, prime + 1 - trace, abs(trace) <= reach)

    def test_no_curve(self):
        for prime in (5, 59, 997):
            for number in (0, 2000):
                self.assertIs(curve_with(prime, number), None)
                self.assertEqual(repr(curves_with(prime, number)), "0")

    def test_by_name(self):
        self.assertEqual(curves_with(number=72, prime=59), 174)
        self.assertEqual(points_of(59, curve_with(number=72, prime=59)), 72)


class DiscriminantTest(unittest.TestCase):
    def check(self, prime, curve):
        told = discriminant_of_curve(prime, curve)
        trace = prime + 1 - points_of(prime, curve)
        if trace == 0:
            self.assertIs(told, None)
            return
        residue = invariant_of(prime, curve)
        fitting = []
        for n in range(1, 20):
            part, rest = divmod(trace * trace - 4 * prime, n * n)
            if rest == 0 and part % 4 in (0, 1) and value_by_horner(POLYNOMIALS[part], residue, prime) == 0:
                fitting.append(part)
        self.assertEqual(repr([told]), repr(fitting))

    def test_all_curves_of_small_primes(self):
        for prime in SMALL[:6]:
            for curve in TABLES[prime]:
                self.check(prime, curve)

    def test_primes_up_to_97(self):
        for prime in FIELDS:
            if prime < 98:
                # All invariants stand among these, and both signs of the trace.
                curves = [(a, b) for a in range(prime) for b in (0, 1, a, a * a % prime)]
                for curve in sorted(set(curves))[::3]:
                    if (4 * curve[0] ** 3 + 27 * curve[1] ** 2) % prime:
                        self.check(prime, curve)

    def test_invariants_0_and_1728(self):
        for prime in FIELDS:
            if prime < 98:
                for unit in range(1, prime, 1 + prime // 30):
                    self.check(prime, (0, unit))
                    self.check(prime, (unit, 0))

    def test_great_parts(self):
        # 4 * 97 - 25 is 3 * 11 * 11.
        self.assertEqual([discriminant_of_curve(97, (1, 13)), discriminant_of_curve(97, (0, 4))], [-363, -3])
        self.assertEqual([points_of(97, (1, 13)), points_of(97, (0, 4))], [93, 93])

    def test_by_name(self):
        self.assertEqual(discriminant_of_curve(curve=(2, 3), prime=59), -23)


class RefusalsTest(unittest.TestCase):
    def check(self, call, error, given):
        with self.assertRaises(error) as caught:
            call()
        self.assertIs(type(caught.exception), error)
        self.assertIs(caught.exception.given, given)

    def test_primes(self):
        for wrong in NO_PRIMES + [2, 3, 1009, 1013, 9973]:
            for function in (points_of, invariant_of, discriminant_of_curve):
                self.check(lambda: function(wrong, None), InvalidPrime, wrong)
            for function in (curve_with, curves_with):
                self.check(lambda: function(wrong, None), InvalidPrime, wrong)

    def test_primes_of_discriminants(self):
        for wrong in (101, 103, 499, 997):
            self.check(lambda: discriminant_of_curve(wrong, (1, 1)), InvalidPrime, wrong)
            self.assertGreater(points_of(wrong, (1, 1)), 0)
        self.assertEqual(type(discriminant_of_curve(97, (1, 1))), int)

    def test_curves(self):
        for function in (points_of, invariant_of, discriminant_of_curve):
            for prime in SMALL:
                for a in range(-1, prime + 2):
                    for b in range(-1, prime + 2):
                        if (a, b) not in TABLES[prime]:
                            wrong = (a, b)
                            self.check(lambda: function(prime, wrong), InvalidCurve, wrong)

    def test_counts(self):
        for function in (curve_with, curves_with):
            for wrong in NO_NUMBERS + [-1, -7, 2001, 2002, 10 ** 99]:
                self.check(lambda: function(59, wrong), InvalidNumber, wrong)
