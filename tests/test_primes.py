"""Which classes take a prime (point 11)."""

import unittest

from classprimes.composing import composed
from classprimes.discriminants import symbol
from classprimes.errors import Divides, InvalidDiscriminant, InvalidForm, InvalidPrime
from classprimes.primes import classes_of, first_prime, is_taken, order_at
from tests.common import (
    ALL_REDUCED, CHANGES, DISCRIMINANTS, GREAT_CHANGES, NO_DISCRIMINANTS, NO_FORMS, NO_PRIMES, PRIMES, REDUCED,
    changed_by_hand, first_by_hand, reduced_by_hand, symbol_at_prime_by_hand, values_by_hand)

SOME = (-3, -4, -7, -8, -15, -20, -23, -47, -56, -84, -163, -231, -359, -399, -400)
GREAT_PRIMES = [prime for prime in PRIMES if prime > 9800]


def order_by_hand(form, discriminant):
    product, count = form, 1
    while product != first_by_hand(discriminant):
        product, count = composed(product, form), count + 1
    return count


class ExamplesTest(unittest.TestCase):
    def test_classes_and_orders(self):
        self.assertEqual(
            repr([classes_of(-23, 2), classes_of(-23, 59), classes_of(-56, 3), classes_of(-20, 7), classes_of(-23, 5),
                  order_at(-23, 2), order_at(-56, 3), order_at(-56, 23), order_at(-23, 5)]),
            "[((2, -1, 3), (2, 1, 3)), ((1, 1, 6),), ((3, -2, 5), (3, 2, 5)), ((2, 2, 3),), (), 3, 4, 1, None]")

    def test_taken(self):
        self.assertEqual(
            repr([is_taken((1, 0, 14), 23), is_taken((1, 0, 14), 79), is_taken((2, 0, 7), 79), is_taken((2, 0, 7), 7),
                  first_prime((1, 0, 14)), first_prime((2, 0, 7)), first_prime((3, 2, 5)), first_prime((1, 1, 6))]),
            "[True, False, True, True, 23, 71, 3, 59]")

    def test_refusal(self):
        with self.assertRaises(Divides) as caught:
            order_at(-56, 7)
        self.assertEqual(caught.exception.given, 7)


class ClassesTest(unittest.TestCase):
    def check_prime(self, discriminant, prime, taken):
        expected = tuple(form for form in REDUCED[discriminant] if prime in taken[form])
        told = classes_of(discriminant, prime)
        self.assertEqual(repr(told), repr(expected))
        if symbol_at_prime_by_hand(discriminant, prime) == -1:
            self.assertEqual(told, ())
            self.assertIs(order_at(discriminant, prime), None)
            return
        a, b, c = told[0]
        self.assertEqual(set(told), {(a, b, c), reduced_by_hand((a, -b, c))})
        self.assertEqual(repr(order_at(discriminant, prime)), repr(order_by_hand(told[-1], discriminant)))

    def test_against_the_values_of_reduced_forms(self):
        for discriminant in DISCRIMINANTS:
            taken = {form: values_by_hand(form, 200) for form in REDUCED[discriminant]}
            for prime in PRIMES[:46]:
                if discriminant % prime:
                    self.check_prime(discriminant, prime, taken)

    def test_great_primes(self):
        for discriminant in SOME:
            taken = {form: values_by_hand(form, 10000) for form in REDUCED[discriminant]}
            for prime in GREAT_PRIMES:
                self.check_prime(discriminant, prime, taken)

    def test_at_2(self):
        self.assertEqual(
            [classes_of(-7, 2), classes_of(-15, 2), classes_of(-39, 2), classes_of(-3, 2), classes_of(-11, 2),
             order_at(-7, 2), order_at(-15, 2), order_at(-39, 2), order_at(-3, 2), order_at(-399, 2)],
            [((1, 1, 2),), ((2, 1, 2),), ((2, -1, 5), (2, 1, 5)), (), (), 1, 2, 4, None, 8])

    def test_one_or_two_classes(self):
        for discriminant in DISCRIMINANTS:
            for prime in PRIMES[:60:3]:
                if discriminant % prime:
                    order = order_at(discriminant, prime)
                    count = {None: 0, 1: 1, 2: 1}.get(order, 2)
                    self.assertEqual(len(classes_of(discriminant, prime)), count)
                    self.assertEqual(symbol(discriminant, prime), -1 if order is None else 1)

    def test_primes_that_divide_last_of_all(self):
        for function in (classes_of, order_at):
            for discriminant in DISCRIMINANTS:
                for prime in PRIMES[:80]:
                    if discriminant % prime == 0:
                        for call in (lambda: function(discriminant, prime),
                                     lambda: function(prime=prime, discriminant=discriminant)):
                            with self.assertRaises(Divides) as caught:
                                call()
                            self.assertIs(type(caught.exception), Divides)
                            self.assertEqual(caught.exception.given, prime)
            for wrong in NO_PRIMES + [1, 4, 10, 20, 25]:
                with self.assertRaises(InvalidPrime) as caught:
                    function(-20, wrong)
                self.assertIs(caught.exception.given, wrong)
            for wrong in NO_DISCRIMINANTS:
                with self.assertRaises(InvalidDiscriminant) as caught:
                    function(wrong, 2)
                self.assertIs(caught.exception.given, wrong)

    def test_by_name(self):
        self.assertEqual(classes_of(prime=59, discriminant=-23), ((1, 1, 6),))
        self.assertEqual(order_at(prime=3, discriminant=-56), 4)


class TakenTest(unittest.TestCase):
    def test_all_reduced_forms(self):
        for form in ALL_REDUCED:
            taken = values_by_hand(form, 410)
            for prime in PRIMES[:80]:
                self.assertIs(is_taken(form, prime), prime in taken)

    def test_great_primes(self):
        for discriminant in SOME:
            for form in REDUCED[discriminant]:
                taken = values_by_hand(form, 10000)
                for prime in GREAT_PRIMES:
                    self.assertIs(is_taken(form, prime), prime in taken)

    def test_primes_that_divide_the_discriminant(self):
        self.assertEqual(
            [is_taken((2, 0, 7), 2), is_taken((2, 0, 7), 7), is_taken((1, 0, 14), 2), is_taken((1, 0, 14), 7),
             is_taken((3, 2, 5), 7), is_taken((1, 0, 5), 5), is_taken((2, 2, 3), 2), is_taken((2, 2, 3), 5),
             is_taken((1, 1, 6), 23), is_taken((2, 1, 3), 23), is_taken((1, 0, 4), 2), is_taken((1, 1, 1), 3)],
            [True, True, False, False, False, True, True, False, True, False, False, True])

    def test_great_forms(self):
        for form in ((1, 0, 14), (2, 0, 7), (3, 2, 5), (2, 1, 3), (1, 0, 1), (1, 1, 1)):
            taken = values_by_hand(form, 10000)
            for change in CHANGES[::19] + GREAT_CHANGES:
                great = changed_by_hand(form, change)
                for prime in PRIMES[:20] + GREAT_PRIMES[::5]:
                    self.assertIs(is_taken(great, prime), prime in taken)

    def test_by_name(self):
        self.assertIs(is_taken(prime=79, form=(2, 0, 7)), True)

    def test_refusals(self):
        for wrong in NO_PRIMES:
            with self.assertRaises(InvalidPrime) as caught:
                is_taken((2, 0, 7), wrong)
            self.assertIs(caught.exception.given, wrong)


class FirstPrimeTest(unittest.TestCase):
    def test_all_classes(self):
        for form in ALL_REDUCED:
            taken = values_by_hand(form, 600)
            size = 4 * form[0] * form[2] - form[1] ** 2
            expected = next(prime for prime in PRIMES if size % prime and prime in taken)
            self.assertEqual(repr(first_prime(form)), repr(expected))

    def test_primes_that_divide_are_passed_over(self):
        self.assertEqual(
            [first_prime((2, 2, 3)), first_prime((1, 0, 2)), first_prime((1, 0, 5)), first_prime((1, 1, 1)),
             first_prime((2, 0, 3)), first_prime((1, 0, 1)), first_prime((10, 10, 11))],
            [3, 3, 29, 7, 5, 5, 11])

    def test_great_forms(self):
        for discriminant in SOME:
            for form in REDUCED[discriminant][:4]:
                for change in GREAT_CHANGES:
                    self.assertEqual(first_prime(changed_by_hand(form, change)), first_prime(form))

    def test_by_name(self):
        self.assertEqual(first_prime(form=(1, 0, 14)), 23)

    def test_refusals(self):
        for wrong in NO_FORMS:
            with self.assertRaises(InvalidForm) as caught:
                first_prime(wrong)
            self.assertIs(caught.exception.given, wrong)
