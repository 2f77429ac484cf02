"""The whole program: what its parts tell of one discriminant (points 2, 12, 15, 16, 18, 24)."""

import math
import unittest
from fractions import Fraction

from classprimes.certificates import (
    certify_alike, certify_falls, certify_order, certify_order_of, certify_polynomial, certify_residues, certify_rings,
    certify_taken, certify_twins)
from classprimes.checker import accepts
from classprimes.composing import composed, kind_of, order_of, own_opposites, power, squares
from classprimes.console import run
from classprimes.counts import hurwitz
from classprimes.curves import curve_with, curves_with, discriminant_of_curve, invariant_of, points_of
from classprimes.discriminants import parts_of, symbol
from classprimes.falling import does_fall_wholly, factors, roots
from classprimes.forms import are_alike, classes, first_form, opposite, reduced
from classprimes.genera import do_residues_tell, genera, residues_of, twins
from classprimes.primes import classes_of, first_prime, is_taken, order_at
from classprimes.singular import class_polynomial
from classprimes.steps import phi, rings
from classprimes.texts import form_text, read_form, read_product
from classprimes.values import solutions, solutions_of_all
from tests.common import PRIMES

SOME = (-3, -4, -7, -8, -12, -15, -20, -23, -39, -47, -56, -71, -84, -96, -104, -163, -231, -239, -260, -399)


class DiscriminantTest(unittest.TestCase):
    def test_group(self):
        for discriminant in SOME:
            forms, first = classes(discriminant), first_form(discriminant)
            kind = kind_of(discriminant)
            self.assertEqual(math.prod(kind), len(forms))
            self.assertEqual(max(order_of(form) for form in forms), kind[-1] if kind else 1)
            for form in forms:
                self.assertEqual(power(form, order_of(form)), first)
                self.assertEqual(composed(form, opposite(form)), first)
                self.assertEqual(reduced(opposite(form)), power(form, -1))
            self.assertEqual(len(squares(discriminant)) * len(own_opposites(discriminant)), len(forms))

    def test_genera(self):
        for discriminant in SOME:
            parted = genera(discriminant)
            self.assertEqual(len(parted), len(own_opposites(discriminant)))
            first = residues_of(first_form(discriminant))
            self.assertEqual([forms for residues, forms in parted if residues == first], [squares(discriminant)])
            self.assertEqual(do_residues_tell(discriminant), len(squares(discriminant)) == 1)
            self.assertEqual(do_residues_tell(discriminant), set(kind_of(discriminant)) <= {2})
            self.assertEqual(twins(discriminant, 24) is None, do_residues_tell(discriminant))

    def test_primes(self):
        for discriminant in SOME:
            first = first_form(discriminant)
            for prime in PRIMES[:30] + [first_prime(first)]:
                sign = symbol(discriminant, prime)
                if sign == 0:
                    continue
                forms = classes_of(discriminant, prime)
                pairs = sum(len(solutions(form, prime)) for form in forms)
                self.assertEqual(pairs, solutions_of_all(discriminant, prime))
                self.assertEqual(pairs, {-3: 6, -4: 4}.get(discriminant, 2) * (1 + sign))
                self.assertEqual(len(forms) > 0, sign == 1)
                for form in forms:
                    self.assertIn(prime % -discriminant, residues_of(form))
                self.check_law(discriminant, prime, sign)

    def check_law(self, discriminant, prime, sign):
        told = factors(discriminant, prime)
        is_first = is_taken(first_form(discriminant), prime)
        self.assertEqual(is_first, sign == 1 and roots(discriminant, prime) != ())
        if sign == 1:
            order = order_at(discriminant, prime)
            self.assertEqual({(len(factor) - 1, exponent) for factor, exponent in told}, {(order, 1)})
            self.assertEqual(does_fall_wholly(discriminant, prime), is_first)
            self.assertEqual(is_first, order == 1)
            self.assertTrue(accepts(*certify_order(discriminant, prime)))
        self.assertTrue(accepts(*certify_falls(discriminant, prime)))

    def test_rings(self):
        for discriminant in SOME:
            prime = next(
                prime for prime in PRIMES if prime > 3 and discriminant % prime and is_taken(first_form(discriminant),
                                                                                             prime))
            for step in (2, 3):
                if symbol(discriminant, step) == 1:
                    told = rings(discriminant, prime, step)
                    order = order_at(discriminant, step)
                    self.assertEqual({len(ring) for ring in told}, {order})
                    self.assertEqual(sorted(root for ring in told for root in ring), list(roots(discriminant, prime)))
                    for ring in told:
                        for one, other in zip(ring, ring[1:] + ring[:1]):
                            self.assertEqual(phi(step, one, other) % prime, 0)
                    self.assertTrue(accepts(*certify_rings(discriminant, prime, step)))

    def test_curves_and_hurwitz_numbers(self):
        for discriminant in SOME:
            d, f = parts_of(discriminant)
            orders = [(d * n * n) for n in range(1, f + 1) if f % n == 0]
            weights = {-3: Fraction(1, 3), -4: Fraction(1, 2)}
            total = sum(len(classes(each)) * weights.get(each, Fraction(1)) for each in orders)
            self.assertEqual(Fraction(*hurwitz(-discriminant)), total)
            # A prime with 4 p = t t - D, where there is one, and a curve with the trace t.
            for prime in [prime for prime in PRIMES if 5 <= prime <= 97]:
                trace = math.isqrt(max(4 * prime + discriminant, 0))
                if trace > 0 and trace * trace - 4 * prime == discriminant:
                    number = prime + 1 - trace
                    curve = curve_with(prime, number)
                    self.assertEqual(points_of(prime, curve), number)
                    self.assertEqual(curves_with(prime, number), (prime - 1) * total / 2)
                    told = discriminant_of_curve(prime, curve)
                    self.assertIn(told, orders)
                    self.assertIn(invariant_of(prime, curve), roots(told, prime))
                    # The first form of the curve's discriminant takes the prime: 4 p = t t - D n n.
                    self.assertTrue(is_taken(first_form(told), prime))

    def test_texts_and_console(self):
        for discriminant in SOME:
            forms = classes(discriminant)
            texts = tuple(form_text(form) for form in forms)
            self.assertEqual(tuple(read_form(text) for text in texts), forms)
            self.assertEqual(tuple(read_product(f"[{text}]") for text in texts), forms)
            prime = first_prime(forms[-1])
            lines = (f"let f = [{texts[-1]}]", "order f", f"same f^{order_of(forms[-1])} = first(-{-discriminant})",
                     f"classes {discriminant}", f"tells {discriminant}", f"prime {prime} {discriminant}",
                     f"takes {prime} f", f"hurwitz {-discriminant}", f"polynomial {discriminant}", "undo")
            n, m = hurwitz(-discriminant)
            self.assertEqual(
                run(lines),
                (texts[-1], str(order_of(forms[-1])), "yes", "; ".join(texts),
                 "yes" if do_residues_tell(discriminant) else "no", f"order {order_of(forms[-1])}",
                 "{} {}".format(*solutions(forms[-1], prime)[-1]), str(n) if m == 1 else f"{n}/{m}",
                 " ".join(map(str, class_polynomial(discriminant))), "0 names"))

    def test_certificates(self):
        for discriminant in SOME:
            forms = classes(discriminant)
            told = [certify_residues(discriminant), certify_polynomial(discriminant)]
            told += [certify_order_of(form) for form in forms]
            told += [certify_alike(form, other) for form in forms[:6] for other in forms[:6]]
            told += [certify_taken(form, first_prime(other)) for form in forms[:6] for other in forms[:6]]
            if not do_residues_tell(discriminant):
                told.append(certify_twins(discriminant, 24))
            for claim, paper in told:
                self.assertIs(accepts(claim, paper), True)
            self.assertEqual(told[0][0][0] == "residues tell", do_residues_tell(discriminant))
            for form in forms[:6]:
                for other in forms[:6]:
                    taken = certify_taken(form, first_prime(other))[0][0] == "taken"
                    self.assertEqual(taken, other in (form, reduced(opposite(form))))
                    self.assertEqual(certify_alike(form, other)[0][0] == "alike", are_alike(form, other))


class OrdersTest(unittest.TestCase):
    def test_equal_calls_in_any_order(self):
        calls = [
            lambda: class_polynomial(-239), lambda: factors(-239, 101), lambda: rings(-239, 383, 3),
            lambda: genera(-84),
            lambda: twins(-23, 60), lambda: run(("let f = first(-23)", "value f", "undo", "undo")),
            lambda: certify_order_of((2, 1, 6)), lambda: curve_with(97, 90), lambda: hurwitz(9999)]
        once = [call() for call in calls]
        again = [call() for call in reversed(calls)]
        self.assertEqual(once, again[::-1])
