"""Where forms have a value (point 11, Dirichlet's sentence)."""

import math
import unittest

from classprimes.discriminants import symbol
from classprimes.errors import InvalidDiscriminant, InvalidForm, InvalidNumber
from classprimes.values import solutions, solutions_of_all
from tests.common import (
    CHANGES, DISCRIMINANTS, GREAT_CHANGES, REDUCED, changed_by_hand, turned_back, value_by_hand)

SOME = (-3, -4, -7, -8, -15, -20, -23, -47, -56, -84, -163, -399, -400)


def solutions_by_table(form, highest):
    """The pairs of each value up to HIGHEST, by looking at all pairs that may have one."""
    a, b, c = form
    size = 4 * a * c - b * b
    # 4 c times the value is from size x x on, 4 a times it from size y y on.
    width = math.isqrt(4 * c * highest // size) + 1
    height = math.isqrt(4 * a * highest // size) + 1
    table = {number: [] for number in range(highest + 1)}
    for x in range(-width, width + 1):
        for y in range(-height, height + 1):
            if value_by_hand(form, x, y) <= highest:
                table[value_by_hand(form, x, y)].append((x, y))
    return table


def count_by_dirichlet(discriminant, number):
    count = {-3: 6, -4: 4}.get(discriminant, 2)
    return count * sum(symbol(discriminant, d) for d in range(1, number + 1) if number % d == 0)


class ExamplesTest(unittest.TestCase):
    def test_solutions(self):
        self.assertEqual(
            repr([solutions((1, 0, 5), 29), solutions((2, 2, 3), 7), solutions((1, 0, 1), 0),
                  solutions((1, 0, 14), 13)]),
            "[((-3, -2), (-3, 2), (3, -2), (3, 2)), ((-2, 1), (-1, -1), (1, 1), (2, -1)), ((0, 0),), ()]")

    def test_solutions_of_all(self):
        self.assertEqual(
            repr([solutions_of_all(-20, 29), solutions_of_all(-20, 21), solutions_of_all(-4, 25),
                  solutions_of_all(-23, 5), solutions_of_all(-23, 1)]),
            "[4, 8, 12, 0, 2]")


class SolutionsTest(unittest.TestCase):
    def test_all_reduced_forms(self):
        for discriminant in DISCRIMINANTS:
            for form in REDUCED[discriminant]:
                for number, pairs in solutions_by_table(form, 30).items():
                    self.assertEqual(repr(solutions(form, number)), repr(tuple(pairs)))

    def test_more_values(self):
        for form in ((1, 0, 1), (1, 1, 1), (2, 1, 3), (2, -1, 3), (1, 0, 14), (3, 2, 5), (10, 10, 11)):
            for number, pairs in solutions_by_table(form, 400).items():
                self.assertEqual(solutions(form, number), tuple(pairs))

    def test_forms_that_are_not_reduced(self):
        for form in ((2, 5, 6), (5, 6, 3), (31, 71, 41), (3, -1, 2), (14, 0, 1), (1, 20, 101), (1, -19, 91)):
            for number, pairs in solutions_by_table(form, 60).items():
                self.assertEqual(solutions(form, number), tuple(pairs))

    def test_at_0(self):
        for discriminant in DISCRIMINANTS:
            for form in REDUCED[discriminant]:
                self.assertEqual(repr(solutions(form, 0)), "((0, 0),)")
                self.assertEqual(solutions(changed_by_hand(form, GREAT_CHANGES[0]), 0), ((0, 0),))

    def test_at_10000(self):
        for form in ((1, 0, 1), (1, 1, 1), (2, 1, 3), (1, 0, 100), (10, 10, 11), (1, 1, 41)):
            table = solutions_by_table(form, 10000)
            for number in (9999, 10000, 9973, 9801, 9409):
                self.assertEqual(solutions(form, number), tuple(table[number]))

    def test_squares_primes_and_what_is_not_taken(self):
        self.assertEqual(
            [solutions((1, 0, 1), 25), solutions((1, 0, 1), 4), solutions((1, 0, 1), 3), solutions((2, 1, 3), 59),
             solutions((1, 1, 6), 5), solutions((1, 0, 100), 10000)],
            [((-5, 0), (-4, -3), (-4, 3), (-3, -4), (-3, 4), (0, -5), (0, 5), (3, -4), (3, 4), (4, -3), (4, 3), (5, 0)),
             ((-2, 0), (0, -2), (0, 2), (2, 0)), (), (), (),
             ((-100, 0), (-80, -6), (-80, 6), (-60, -8), (-60, 8), (0, -10), (0, 10), (60, -8), (60, 8), (80, -6),
              (80, 6), (100, 0))])

    def test_great_forms(self):
        for form in ((1, 0, 5), (2, 2, 3), (1, 0, 1), (1, 1, 1), (2, 1, 3), (3, -2, 5)):
            table = solutions_by_table(form, 100)
            for change in CHANGES[::5] + GREAT_CHANGES:
                p, q, r, s = turned_back(change)
                other = changed_by_hand(form, change)
                for number in (1, 7, 25, 29, 36, 81):
                    expected = sorted((p * x + q * y, r * x + s * y) for x, y in table[number])
                    self.assertEqual(solutions(other, number), tuple(expected))

    def test_by_name(self):
        self.assertEqual(solutions(number=29, form=(1, 0, 5)), ((-3, -2), (-3, 2), (3, -2), (3, 2)))

    def test_refusals(self):
        for wrong in (-1, 10001, True, False, None, "7", (7,)):
            with self.assertRaises(InvalidNumber) as caught:
                solutions((1, 0, 5), wrong)
            self.assertIs(caught.exception.given, wrong)
        with self.assertRaises(InvalidForm) as caught:
            solutions([1, 0, 5], -1)
        self.assertEqual(caught.exception.given, [1, 0, 5])


class SolutionsOfAllTest(unittest.TestCase):
    def test_against_dirichlet(self):
        for discriminant in DISCRIMINANTS:
            for number in list(range(1, 40)) + [121, 961, 1001]:
                if math.gcd(discriminant, number) == 1:
                    self.assertEqual(repr(solutions_of_all(discriminant, number)),
                                     repr(count_by_dirichlet(discriminant, number)))

    def test_great_numbers_against_dirichlet(self):
        for discriminant in SOME:
            for number in (2401, 5929, 7429, 9409, 9797, 9973, 9991, 9996, 9997, 9999, 10000):
                if math.gcd(discriminant, number) == 1:
                    self.assertEqual(solutions_of_all(discriminant, number), count_by_dirichlet(discriminant, number))

    def test_against_the_pairs_of_each_form(self):
        for discriminant in SOME:
            tables = [solutions_by_table(form, 120) for form in REDUCED[discriminant]]
            for number in range(1, 121):
                if math.gcd(discriminant, number) == 1:
                    expected = sum(len(table[number]) for table in tables)
                    self.assertEqual(solutions_of_all(discriminant, number), expected)

    def test_at_1(self):
        for discriminant in DISCRIMINANTS:
            self.assertEqual(solutions_of_all(discriminant, 1), {-3: 6, -4: 4}.get(discriminant, 2))

    def test_by_name(self):
        self.assertEqual(solutions_of_all(number=21, discriminant=-20), 8)

    def test_refusals(self):
        for discriminant in DISCRIMINANTS:
            for wrong in (0, -1, 10001, True, None, "7"):
                with self.assertRaises(InvalidNumber) as caught:
                    solutions_of_all(discriminant, wrong)
                self.assertIs(caught.exception.given, wrong)
            for number in range(2, 40):
                if math.gcd(discriminant, number) > 1:
                    with self.assertRaises(InvalidNumber) as caught:
                        solutions_of_all(discriminant, number)
                    self.assertEqual(caught.exception.given, number)
        with self.assertRaises(InvalidDiscriminant) as caught:
            solutions_of_all(-22, 0)
        self.assertEqual(caught.exception.given, -22)
