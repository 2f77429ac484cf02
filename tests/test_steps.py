"""Steps between roots and the rings that they make (point 16)."""

import unittest

from classprimes.errors import (
    Divides, InvalidDiscriminant, InvalidNumber, InvalidPrime, InvalidStep, NoSquare, NotFirst)
from classprimes.falling import roots
from classprimes.primes import order_at
from classprimes.steps import phi, rings
from tests.common import (
    DISCRIMINANTS, GREAT, NO_NUMBERS, PRIMES, REDUCED, first_by_hand, symbol_at_prime_by_hand, values_by_hand)

# What stands at X ^ k Y ^ l and, where the exponents are unlike, at X ^ l Y ^ k.
TERMS = {
    2: {(3, 0): 1, (2, 2): -1, (2, 1): 1488, (2, 0): -162000, (1, 1): 40773375, (1, 0): 8748000000,
        (0, 0): -157464000000000},
    3: {(4, 0): 1, (3, 3): -1, (3, 2): 2232, (3, 1): -1069956, (3, 0): 36864000, (2, 2): 2587918086,
        (2, 1): 8900222976000, (2, 0): 452984832000000, (1, 1): -770845966336000000, (1, 0): 1855425871872000000000},
}
INVARIANTS = {
    -3: 0, -4: 1728, -7: -3375, -8: 8000, -11: -32768, -12: 54000, -16: 287496, -19: -884736, -27: -12288000,
    -28: 16581375, -43: -884736000, -67: -147197952000, -163: -262537412640768000}
NUMBERS = [
    0, 1, -1, 2, -2, 7, -15, 1728, -3375, 54000, 10 ** 9 + 7, -(10 ** 20), GREAT, -GREAT, GREAT + 3, -(10 ** 300)]


def phi_by_hand(step, x, y):
    total = 0
    for (k, l), number in TERMS[step].items():
        total += number * x ** k * y ** l
        if k != l:
            total += number * x ** l * y ** k
    return total


class ExamplesTest(unittest.TestCase):
    def test_phi(self):
        self.assertEqual(
            repr([phi(2, 1728, 1728), phi(2, 8000, 8000), phi(3, 0, 0), phi(2, 20, 42) % 59, phi(3, 20, 42) % 59]),
            "[0, 0, 0, 0, 0]")

    def test_rings(self):
        self.assertEqual(
            repr([rings(-23, 59, 2), rings(-23, 59, 3), rings(-56, 23, 3), rings(-71, 107, 2)]),
            "[((20, 42, 44),), ((20, 42, 44),), ((14, 20, 18, 22),), ((19, 57, 77, 46, 63, 30, 64),)]")

    def test_refusal(self):
        with self.assertRaises(NotFirst) as caught:
            rings(-23, 13, 2)
        self.assertEqual(caught.exception.given, 13)


class PhiTest(unittest.TestCase):
    def test_told_sums(self):
        for step in (2, 3):
            for x in NUMBERS:
                for y in NUMBERS:
                    told = phi(step, x, y)
                    self.assertIs(type(told), int)
                    self.assertEqual(told, phi_by_hand(step, x, y))
                    self.assertEqual(told, phi(step, y, x))

    def test_invariants_that_a_step_leads_to_one_another(self):
        for step, one, other in (
                (2, -4, -4), (2, -8, -8), (2, -7, -7), (2, -3, -12), (2, -4, -16), (2, -7, -28), (3, -3, -3),
                (3, -3, -27), (3, -8, -8), (3, -11, -11), (3, -12, -12)):
            self.assertEqual(phi(step, INVARIANTS[one], INVARIANTS[other]), 0)
            self.assertEqual(phi(step, INVARIANTS[other], INVARIANTS[one]), 0)

    def test_invariants_that_none_leads_to_one_another(self):
        for step, one, other in ((2, -3, -3), (2, -11, -11), (2, -12, -12), (2, -3, -4), (2, -163, -163), (3, -4, -4),
                                 (3, -7, -7), (3, -3, -12), (3, -4, -16), (3, -163, -67), (2, -3, -27)):
            self.assertNotEqual(phi(step, INVARIANTS[one], INVARIANTS[other]), 0)

    def test_by_name(self):
        self.assertEqual(phi(y=287496, x=1728, step=2), 0)
        self.assertEqual(phi(x=1, y=0, step=3), phi_by_hand(3, 1, 0))

    def test_refusals(self):
        for wrong in NO_NUMBERS + [0, 1, 4, -2, -3, 23, GREAT]:
            with self.assertRaises(InvalidStep) as caught:
                phi(wrong, None, None)
            self.assertIs(caught.exception.given, wrong)
        for wrong in NO_NUMBERS:
            for arguments in ((2, wrong, None), (3, 5, wrong)):
                with self.assertRaises(InvalidNumber) as caught:
                    phi(*arguments)
                self.assertIs(caught.exception.given, wrong)


def cases():
    """Discriminants, primes that the first form takes, some of them great, and steps."""
    for place, discriminant in enumerate(DISCRIMINANTS):
        steps = [step for step in (2, 3) if symbol_at_prime_by_hand(discriminant, step) == 1]
        if steps:
            taken = values_by_hand(first_by_hand(discriminant), 4000)
            primes = [prime for prime in PRIMES if prime in taken and discriminant % prime]
            for prime in primes[:3] + primes[4 + place % 7:40:30] + primes[-1:]:
                for step in steps:
                    if prime != step:
                        yield discriminant, prime, step


CASES = list(cases())


class RingsTest(unittest.TestCase):
    def check_ring(self, ring, prime, step, residues):
        self.assertEqual(type(ring), tuple)
        self.assertEqual({type(root) for root in ring}, {int})
        self.assertEqual(ring[0], min(ring))
        for place, root in enumerate(ring):
            beside = sorted({ring[place - 1], ring[(place + 1) % len(ring)]})
            self.assertEqual([other for other in residues if phi_by_hand(step, root, other) % prime == 0], beside)
        if len(ring) > 2:
            self.assertLess(ring[1], ring[-1])

    def test_rings(self):
        orders = set()
        for discriminant, prime, step in CASES:
            residues = roots(discriminant, prime)
            told = rings(discriminant, prime, step)
            self.assertIs(type(told), tuple)
            self.assertEqual(sorted(root for ring in told for root in ring), list(residues))
            self.assertEqual(told, tuple(sorted(told)))
            for ring in told:
                self.check_ring(ring, prime, step, residues)
            order = order_at(discriminant, step)
            self.assertEqual({len(ring) for ring in told}, {order})
            self.assertEqual(len(told) * order, len(REDUCED[discriminant]))
            orders.add((order, len(told)))
        # One ring alone and several, those that are no more than a root or two among them.
        self.assertLessEqual({(1, 1), (2, 1), (3, 1), (3, 2), (4, 1), (4, 2), (5, 3), (7, 2), (19, 1)}, orders)

    def test_rings_of_one_root_and_of_two(self):
        self.assertEqual(
            [rings(-7, 11, 2), rings(-8, 11, 3), rings(-15, 19, 2), rings(-15, 31, 2), rings(-20, 29, 3)],
            [((2,),), ((3,),), ((5, 15),), ((11, 17),), ((12, 23),)])

    def test_by_name(self):
        self.assertEqual(rings(step=3, prime=23, discriminant=-56), ((14, 20, 18, 22),))


class RefusalsTest(unittest.TestCase):
    def check(self, arguments, error, given):
        for call in (lambda: rings(*arguments),
                     lambda: rings(step=arguments[2], prime=arguments[1], discriminant=arguments[0])):
            with self.assertRaises(error) as caught:
                call()
            self.assertIs(type(caught.exception), error)
            self.assertIs(caught.exception.given, given)

    def test_primes_that_divide_the_discriminant(self):
        # At the first two the symbol at the step is not 1, at the others the prime is the step, too.
        for discriminant, prime, step in ((-20, 5, 2), (-23, 23, 2), (-20, 2, 2), (-20, 5, 3), (-15, 3, 3), (-4, 2, 2)):
            self.check((discriminant, prime, step), Divides, prime)

    def test_primes_that_the_first_form_does_not_take(self):
        # Other forms take some of these; at others the symbol of the discriminant is - 1.
        for discriminant, prime, step in (
                (-23, 13, 2), (-23, 5, 2), (-23, 7, 3), (-56, 5, 3), (-56, 13, 3), (-20, 7, 3), (-20, 7, 2), (-4, 7, 3),
                (-4, 3, 2), (-4, 7, 2), (-163, 2, 2)):
            self.check((discriminant, prime, step), NotFirst, prime)

    def test_primes_that_are_the_step(self):
        # The first form takes 2 and 3 here, all but that of - 23 and that of - 11 at 2.
        for discriminant, step in ((-7, 2), (-8, 3), (-11, 3), (-23, 2), (-23, 3), (-11, 2)):
            self.check((discriminant, step, step), NotFirst, step)

    def test_steps_at_which_the_symbol_is_not_1(self):
        for discriminant, prime, step in ((-4, 5, 2), (-4, 5, 3), (-3, 7, 2), (-3, 7, 3), (-20, 29, 2), (-163, 41, 2),
                                          (-163, 41, 3), (-7, 11, 3), (-12, 7, 3)):
            self.check((discriminant, prime, step), NoSquare, step)

    def test_all_else_is_checked_ahead(self):
        for discriminant, prime in ((-20, 5), (-23, 13), (-20, 7), (-4, 5), (-4, 2)):
            for wrong in (None, 1, 4, 5, True, "2"):
                self.check((discriminant, prime, wrong), InvalidStep, wrong)
        for wrong in (1, 4, 9, 10007, None, True):
            self.check((-20, wrong, 7), InvalidPrime, wrong)
        for wrong in (-22, 0, -401, None, True):
            self.check((wrong, 4, 7), InvalidDiscriminant, wrong)
