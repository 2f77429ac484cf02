"""Certificates (point 24): what they tell is so, its paper is accepted, and no paper for the contrary."""

import itertools
import unittest

from classprimes import certificates, steps
from classprimes.certificates import (
    certify_alike, certify_composed, certify_falls, certify_order, certify_order_of, certify_polynomial,
    certify_residues, certify_rings, certify_taken, certify_twins)
from classprimes.checker import accepts
from classprimes.composing import composed, order_of
from classprimes.errors import Divides, NoSquare, OtherDiscriminant
from classprimes.primes import order_at
from classprimes.singular import class_polynomial
from tests.by_papers import accepted_by_hand
from tests.common import (
    ALL_REDUCED, CHANGES, DISCRIMINANTS, GREAT_CHANGES, PRIMES, REDUCED, changed_by_hand, first_by_hand, is_prime,
    reduced_by_hand, symbol_at_prime_by_hand, values_by_hand)

SOME = (-3, -4, -7, -15, -20, -23, -47, -56, -84, -96, -163, -231, -359, -399, -400)
OTHER_WORDS = {
    "alike": "unlike", "taken": "not taken", "residues tell": "residues do not tell",
    "falls wholly": "does not fall wholly"}
OTHER_WORDS.update({other: word for word, other in list(OTHER_WORDS.items())})


class CertificateTest(unittest.TestCase):
    def check(self, told, claim):
        """The claim, its paper, and the other claim, which no paper that is at hand is accepted for."""
        self.assertEqual((type(told), len(told)), (tuple, 2))
        self.assertEqual(repr(told[0]), repr(claim))
        self.assertIs(accepts(*told), True, told)
        self.assertIs(accepted_by_hand(*told), True, told)
        if claim[0] in OTHER_WORDS:
            other = (OTHER_WORDS[claim[0]],) + claim[1:]
            for paper in ((), told[1], (told[1],), claim[1:], (claim[1],)):
                self.assertIs(accepts(other, paper), False, (other, paper))

    def check_error(self, call, error, given):
        with self.assertRaises(error) as caught:
            call()
        self.assertIs(type(caught.exception), error)
        self.assertEqual(repr(caught.exception.given), repr(given))


class ExamplesTest(unittest.TestCase):
    def test_certificates(self):
        self.assertEqual(
            repr([certify_alike((2, 1, 3), (2, -1, 3)), certify_order(-23, 2), certify_falls(-23, 59),
                  certify_falls(-23, 5), certify_rings(-56, 23, 3)]),
            "[(('unlike', (2, 1, 3), (2, -1, 3)), ()), (('order', -23, 2, 3), ((1, 1, 0, 1),)), "
            "(('falls wholly', -23, 59), (20, 42, 44)), (('does not fall wholly', -23, 5), ((0, 1),)), "
            "(('rings', -56, 23, 3, ((14, 20, 18, 22),)), ())]")

    def test_accepted(self):
        self.assertEqual(
            repr([accepts(*certify_composed((2, 1, 3), (2, 1, 3))), accepts(*certify_order_of((3, 2, 5))),
                  accepts(*certify_taken((1, 0, 14), 23)), accepts(*certify_taken((1, 0, 14), 79)),
                  accepts(*certify_residues(-84)), accepts(*certify_residues(-56)), accepts(*certify_twins(-56, 56))]),
            "[True, True, True, True, True, True, True]")

    def test_others(self):
        self.assertEqual(
            repr([certify_taken((1, 0, 14), 5)[0], accepts(("not taken", (1, 0, 14), 5), ((3, 2, 5), 0, 1)),
                  accepts(("not taken", (3, 2, 5), 5), ((3, -2, 5), 0, 1)),
                  accepts(("residues do not tell", -56), ((3, 2, 5),)),
                  accepts(("residues do not tell", -56), ((2, 0, 7),)),
                  accepts(("twins", -56, 56, 23, 79), (3, 1, (2, 0, 7), 6, 1, 3, 1))]),
            "[('not taken', (1, 0, 14), 5), True, False, True, False, True]")


class FormsTest(CertificateTest):
    def test_alike(self):
        for discriminant in SOME:
            for form, other in itertools.product(REDUCED[discriminant][:5], repeat=2):
                for change, then in zip(CHANGES[::17] + GREAT_CHANGES, CHANGES[5::17] + GREAT_CHANGES[::-1]):
                    one, two = changed_by_hand(form, change), changed_by_hand(other, then)
                    self.check(certify_alike(one, two), ("alike" if form == other else "unlike", one, two))

    def test_of_unlike_discriminants(self):
        for form, other in itertools.product(((1, 0, 1), (1, 1, 1), (1, 1, 6), (2, 2, 3)), repeat=2):
            self.check(certify_alike(other=other, form=form), ("alike" if form == other else "unlike", form, other))

    def test_composed(self):
        for discriminant in SOME:
            for form, other in itertools.product(REDUCED[discriminant][:6], repeat=2):
                for change, then in ((CHANGES[3], CHANGES[-20]), (GREAT_CHANGES[0], GREAT_CHANGES[3])):
                    one, two = changed_by_hand(form, change), changed_by_hand(other, then)
                    told = certify_composed(one, two)
                    third = told[0][3]
                    self.assertEqual(reduced_by_hand(third), composed(form, other))
                    self.check(told, ("composed", one, two, third))
        self.check_error(lambda: certify_composed((1, 1, 6), (1, 0, 5)), OtherDiscriminant, (1, 0, 5))
        self.assertIs(accepts(*certify_composed(other=(2, 1, 3), form=(2, -1, 3))), True)

    def test_orders(self):
        for form in ALL_REDUCED:
            self.check(certify_order_of(form), ("has order", form, order_of(form)))
        for form in ((2, 1, 3), (3, 2, 5), (1, 0, 1), (5, 1, 20), (2, 2, 3)):
            for change in CHANGES[::13] + GREAT_CHANGES:
                great = changed_by_hand(form, change)
                told = certify_order_of(form=great)
                self.check(told, ("has order", great, order_of(form)))
                for count in range(12):
                    if count != told[0][2]:
                        self.assertIs(accepts(("has order", great, count), told[1]), False)
                        self.assertIs(accepts(("has order", great, count), told[1][:max(count - 1, 0)]), False)


class TakenTest(CertificateTest):
    def check_taken(self, form, great, prime, taken):
        discriminant = form[1] ** 2 - 4 * form[0] * form[2]
        if discriminant % prime == 0:
            self.check_error(lambda: certify_taken(great, prime), Divides, prime)
        else:
            self.check(certify_taken(great, prime), ("taken" if prime in taken else "not taken", great, prime))

    def test_reduced_forms(self):
        for form in ALL_REDUCED[::3]:
            taken = values_by_hand(form, 110)
            for prime in PRIMES[:29]:
                self.check_taken(form, form, prime, taken)

    def test_great_primes_and_forms(self):
        for form in ((1, 0, 1), (1, 1, 1), (1, 1, 6), (2, 1, 3), (1, 0, 14), (3, 2, 5), (2, 2, 3), (5, 1, 20)):
            taken = values_by_hand(form, 10000)
            for prime in PRIMES[:12] + PRIMES[-12:]:
                for change in CHANGES[:1] + GREAT_CHANGES[::2]:
                    self.check_taken(form, changed_by_hand(form, change), prime, taken)

    def test_by_name(self):
        self.check(certify_taken(prime=79, form=(2, 0, 7)), ("taken", (2, 0, 7), 79))

    def test_no_paper_for_the_contrary(self):
        # All pairs that are near, and all FORMs of the discriminant with places near.
        for form, prime in itertools.product(((1, 0, 14), (2, 0, 7), (3, 2, 5)), (5, 23, 71, 79, 3, 11)):
            told = certify_taken(form, prime)[0]
            other = (OTHER_WORDS[told[0]],) + told[1:]
            for x, y in itertools.product(range(-9, 10), repeat=2):
                self.assertIs(accepts(other, (x, y)), False)
                for another in REDUCED[-56]:
                    self.assertIs(accepts(other, (another, x, y)), False)


class ResiduesTest(CertificateTest):
    def test_all_discriminants(self):
        for discriminant in DISCRIMINANTS:
            own = all(reduced_by_hand((a, -b, c)) == (a, b, c) for a, b, c in REDUCED[discriminant])
            told = certify_residues(discriminant=discriminant)
            self.check(told, ("residues tell" if own else "residues do not tell", discriminant))
            other = (OTHER_WORDS[told[0][0]], discriminant)
            for form in REDUCED[discriminant]:
                self.assertIs(accepts(other, (form,)), False)
            self.assertIs(accepts(other, ((1, 0, 0, 1),) * len(REDUCED[discriminant])), False)

    def test_twins(self):
        for discriminant in SOME + tuple(DISCRIMINANTS[::23]):
            own = all(reduced_by_hand((a, -b, c)) == (a, b, c) for a, b, c in REDUCED[discriminant])
            for number in (1, 2, 7, -discriminant, 360, 840, 997, 1000):
                told = certify_twins(discriminant, number)
                if own:
                    self.assertIs(told, None)
                else:
                    self.assertEqual(told[0][:3], ("twins", discriminant, number))
                    self.check(told, told[0])
                    self.assertTrue(is_prime(told[0][3]) and is_prime(told[0][4]))
                    self.assertEqual((told[0][3] - told[0][4]) % number, 0)
                    self.assertIs(accepts(told[0][:3] + (told[0][4], told[0][3]), told[1]), False)
        self.assertIs(accepts(*certify_twins(number=24, discriminant=-23)), True)


class PolynomialsTest(CertificateTest):
    def test_polynomials(self):
        for discriminant in DISCRIMINANTS[::4] + [-359, -311]:
            self.check(
                certify_polynomial(discriminant), ("class polynomial", discriminant, class_polynomial(discriminant)))
        self.assertEqual(certify_polynomial(discriminant=-3), (("class polynomial", -3, (0, 1)), ()))

    def test_orders(self):
        for discriminant in SOME + tuple(DISCRIMINANTS[::17]):
            for prime in PRIMES[:9] + [101, 9973]:
                symbol = symbol_at_prime_by_hand(discriminant, prime)
                if symbol == 1:
                    order = order_at(discriminant, prime)
                    told = certify_order(discriminant, prime)
                    self.check(told, ("order", discriminant, prime, order))
                    for count in range(21):
                        if count != order:
                            self.assertIs(accepts(("order", discriminant, prime, count), told[1]), False)
                else:
                    self.check_error(
                        lambda: certify_order(discriminant, prime), NoSquare if symbol else Divides, prime)
        self.assertIs(accepts(*certify_order(prime=2, discriminant=-23)), True)

    def test_falling(self):
        for discriminant in SOME + tuple(DISCRIMINANTS[::11]):
            taken = values_by_hand(first_by_hand(discriminant), 130)
            for prime in PRIMES[:30:2] + PRIMES[1:5]:
                symbol = symbol_at_prime_by_hand(discriminant, prime)
                if symbol == 0:
                    self.check_error(lambda: certify_falls(discriminant, prime), Divides, prime)
                    continue
                told = certify_falls(discriminant, prime)
                if symbol == 1:
                    self.assertEqual(told[0][0] == "falls wholly", prime in taken)
                self.assertIn(told[0][0], ("falls wholly", "does not fall wholly"))
                self.check(told, told[0][:1] + (discriminant, prime))
        self.assertIs(accepts(*certify_falls(prime=59, discriminant=-23)), True)

    def test_no_paper_for_the_contrary(self):
        for discriminant, prime in ((-23, 59), (-20, 29), (-7, 3), (-23, 101), (-56, 23)):
            self.assertEqual(certify_falls(discriminant, prime)[0][0], "falls wholly")
            factors = [(number, 1) for number in range(-1, prime + 1)]
            factors += [(number, other, 1) for number in range(0, prime, 7) for other in range(0, prime, 5)]
            for factor in factors:
                self.assertIs(accepts(("does not fall wholly", discriminant, prime), (factor,)), False)

    def test_rings(self):
        count = 0
        for discriminant in SOME + tuple(DISCRIMINANTS[::7]):
            taken = values_by_hand(first_by_hand(discriminant), 700)
            for step in (2, 3):
                for prime in [prime for prime in PRIMES[:125] if prime in taken and discriminant % prime][:4]:
                    if symbol_at_prime_by_hand(discriminant, step) == 1 and prime != step:
                        count += 1
                        told = certify_rings(discriminant, prime, step)
                        self.check(
                            told, ("rings", discriminant, prime, step, steps.rings(discriminant, prime, step)))
        self.assertGreater(count, 50)
        self.assertIs(accepts(*certify_rings(step=2, prime=59, discriminant=-23)), True)


class ListTest(unittest.TestCase):
    def test_each_makes_a_claim_of_its_own_kind(self):
        self.assertEqual(
            [certify_alike((1, 0, 1), (1, 0, 1))[0][0], certify_composed((1, 0, 1), (1, 0, 1))[0][0],
             certify_order_of((1, 0, 1))[0], certify_residues(-4)[0], certify_polynomial(-4), certify_order(-4, 5)[0],
             certify_falls(-4, 3), certify_rings(-8, 11, 3)],
            ["alike", "composed", ("has order", (1, 0, 1), 1), ("residues tell", -4),
             (("class polynomial", -4, (-1728, 1)), ()), ("order", -4, 5, 1), (("falls wholly", -4, 3), (0,)),
             (("rings", -8, 11, 3, ((3,),)), ())])
        self.assertEqual(len([name for name in dir(certificates) if name.startswith("certify_")]), 10)
