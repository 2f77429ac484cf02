"""Claims and papers (point 23)."""

import itertools
import unittest

from classprimes import certificates
from classprimes.checker import accepts
from classprimes.singular import class_polynomial
from tests.by_papers import accepted_by_hand
from tests.common import (
    CHANGES, DISCRIMINANTS, GREAT_CHANGES, NO_CHANGES, NO_DISCRIMINANTS, NO_FORMS, NO_NUMBERS, NO_PRIMES, REDUCED,
    changed_by_hand, first_by_hand, is_prime, nested, turned_back)
from tests.variants import WORDS, variants

# Claims that are so, each with a paper.
RIGHT = [
    (("alike", (2, 1, 3), (2, 5, 6)), (1, 1, 0, 1)),
    (("alike", (2, 1, 3), (3, -1, 2)), (0, -1, 1, 0)),
    (("alike", (1, 0, 1), (1, 0, 1)), (0, -1, 1, 0)),
    (("alike", (1, 1, 1), (1, 1, 1)), (1, 1, -1, 0)),
    (("unlike", (2, 1, 3), (2, -1, 3)), ()),
    (("unlike", (1, 0, 5), (1, 1, 6)), ()),
    (("composed", (1, 0, 1), (1, 0, 1), (1, 0, 1)), (1, 0, 0, -1, 0, 1, 1, 0)),
    (("composed", (2, 0, 3), (3, 0, 2), (6, 0, 1)), (1, 0, 0, -1, 0, 2, 3, 0)),
    (("has order", (1, 1, 6), 1), ()),
    (("has order", (2, 2, 3), 2), (((1, 0, 5), (2, 1, 1, -2, 0, 1, 1, 1)),)),
    (("taken", (1, 0, 14), 23), (3, 1)),
    (("taken", (2, 0, 7), 79), (6, 1)),
    (("taken", (1, 0, 1), 5), (2, -1)),
    (("not taken", (1, 0, 14), 5), ((3, 2, 5), 0, 1)),
    (("not taken", (1, 0, 14), 79), ((2, 0, 7), 6, 1)),
    (("not taken", (1, 1, 6), 5), ()),
    (("residues tell", -20), ((1, 0, 0, 1), (1, -1, 0, 1))),
    (("residues tell", -3), ((1, -1, 0, 1),)),
    (("residues do not tell", -56), ((3, 2, 5),)),
    (("twins", -56, 56, 23, 79), (3, 1, (2, 0, 7), 6, 1, 3, 1)),
    (("class polynomial", -23, (12771880859375, -5151296875, 3491750, 1)), ()),
    (("class polynomial", -3, (0, 1)), ()),
    (("order", -23, 2, 3), ((1, 1, 0, 1),)),
    (("order", -20, 29, 1), ((6, 1), (17, 1))),
    (("order", -7, 2, 1), ((1, 1),)),
    (("falls wholly", -23, 59), (20, 42, 44)),
    (("falls wholly", -7, 3), (0,)),
    (("falls wholly", -7, 11), (2,)),
    (("does not fall wholly", -23, 5), ((0, 1),)),
    (("does not fall wholly", -23, 2), ((1, 1, 0, 1),)),
    (("rings", -56, 23, 3, ((14, 20, 18, 22),)), ()),
    (("rings", -23, 59, 2, ((20, 42, 44),)), ()),
    (("rings", -7, 11, 2, ((2,),)), ()),
]
CERTIFIED = [
    certificates.certify_alike((2, 1, 3), changed_by_hand((2, 1, 3), (7, 3, 2, 1))),
    certificates.certify_composed((3, 2, 5), (3, 2, 5)), certificates.certify_composed((2, 1, 3), (1, 1, 6)),
    certificates.certify_order_of((3, 2, 5)), certificates.certify_order_of((2, 1, 6)),
    certificates.certify_order_of((10, 10, 11)), certificates.certify_residues(-84), certificates.certify_residues(-47),
    certificates.certify_twins(-23, 100), certificates.certify_twins(-56, 1), certificates.certify_polynomial(-47),
    certificates.certify_order(-56, 3), certificates.certify_order(-39, 11), certificates.certify_order(-399, 2),
    certificates.certify_falls(-84, 19), certificates.certify_falls(-47, 2), certificates.certify_falls(-47, 43),
    certificates.certify_rings(-104, 107, 3), certificates.certify_rings(-15, 19, 2)]
ALL = RIGHT + CERTIFIED


class CheckerTest(unittest.TestCase):
    def check(self, claim, paper):
        told = accepts(claim, paper)
        self.assertIs(told, accepted_by_hand(claim, paper), (claim, paper))
        return told


class AcceptsTest(CheckerTest):
    def test_right_ones(self):
        for claim, paper in ALL:
            self.assertIs(accepts(claim, paper), True, claim)
            self.assertIs(accepts(paper=paper, claim=claim), True)
            self.assertTrue(accepted_by_hand(claim, paper))

    def test_papers_with_one_thing_other(self):
        still = 0
        for claim, paper in ALL:
            for other in variants(paper):
                still += self.check(claim, other)
        # Some others are right, too.
        self.assertGreater(still, 20)

    def test_claims_with_one_thing_other(self):
        for claim, paper in ALL:
            for other in variants(claim):
                self.check(other, paper)

    def test_papers_of_other_claims(self):
        for (claim, _), (_, paper) in itertools.product(ALL, repeat=2):
            self.check(claim, paper)

    def test_other_words(self):
        for (claim, paper), word in itertools.product(ALL, WORDS):
            self.check((word,) + claim[1:], paper)

    def test_any_values(self):
        odd = NO_NUMBERS + NO_FORMS[len(NO_NUMBERS):] + NO_CHANGES[len(NO_NUMBERS):]
        odd += [nested(tuple, 30), (nested(list, 29),)]
        for value in odd:
            self.assertIs(accepts(value, ()), False)
            self.assertIs(accepts((value,), ()), False)
            for claim, paper in ALL:
                self.assertIs(accepts(claim, value), accepted_by_hand(claim, value))
                self.assertIs(accepts((value,) + claim[1:], paper), False)
                self.assertIs(accepts(claim + (value,), paper), False)
                for at in range(len(paper)):
                    self.check(claim, paper[:at] + (value,) + paper[at + 1:])

    def test_parts_that_are_wrong_for_themselves(self):
        for claim, paper in ALL:
            for at, part in enumerate(claim[1:], 1):
                wrong_ones = NO_NUMBERS if isinstance(part, int) else NO_FORMS
                if at == 1 and isinstance(part, int):
                    wrong_ones = NO_DISCRIMINANTS
                if at == 2 and claim[0] not in ("has order", "twins"):
                    wrong_ones = NO_PRIMES if isinstance(part, int) else wrong_ones
                for wrong in wrong_ones:
                    if wrong != () or claim[0] != "rings":
                        self.assertIs(accepts(claim[:at] + (wrong,) + claim[at + 1:], paper), False, (claim, at, wrong))

    def test_lists_for_tuples(self):
        for claim, paper in ALL:
            self.assertIs(accepts(list(claim), paper), False)
            self.assertIs(accepts(claim, list(paper)), False)
            for at, part in enumerate(claim):
                if isinstance(part, tuple):
                    self.assertIs(accepts(claim[:at] + (list(part),) + claim[at + 1:], paper), False)
            for at, part in enumerate(paper):
                if isinstance(part, tuple):
                    self.assertIs(accepts(claim, paper[:at] + (list(part),) + paper[at + 1:]), False)

    def test_true_and_false_are_no_numbers(self):
        for claim, paper in (
                (("alike", (2, 1, 3), (2, 5, 6)), (True, 1, 0, 1)), (("alike", (2, 1, 3), (2, 5, 6)), (1, 1, False, 1)),
                (("alike", (2, True, 3), (2, 5, 6)), (1, 1, 0, 1)), (("has order", (1, 1, 6), True), ()),
                (("has order", (True, 1, 6), 1), ()), (("class polynomial", -3, (False, 1)), ()),
                (("class polynomial", -3, (0, True)), ()), (("order", -7, 2, True), ((1, 1),)),
                (("order", -7, 2, 1), ((True, 1),)), (("order", -7, 2, 1), ((1, True),)),
                (("falls wholly", -7, 3), (False,)), (("does not fall wholly", -23, 5), ((False, 1),)),
                (("does not fall wholly", -23, 5), ((0, True),)), (("taken", (1, 0, 1), 5), (2, True)),
                (("twins", -56, True, 23, 79), (3, 1, (2, 0, 7), 6, 1, 3, 1)),
                (("twins", -56, 56, 23, 79), (3, True, (2, 0, 7), 6, 1, 3, 1)),
                (("rings", -15, 19, 2, ((5, 15),)), False), (("rings", -8, 19, 3, ((True,),)), ()),
                (("composed", (1, 0, 1), (1, 0, 1), (1, 0, 1)), (True, 0, 0, -1, 0, 1, 1, 0))):
            self.assertIs(accepts(claim, paper), False)
        self.assertIs(accepts(("rings", -8, 19, 3, ((1,),)), ()), True)


class ClaimsTest(CheckerTest):
    """What the papers with one thing other do not reach."""

    def test_great_numbers(self):
        for change in GREAT_CHANGES:
            great = changed_by_hand((2, 1, 3), change)
            back = turned_back(change)
            self.assertIs(accepts(("alike", (2, 1, 3), great), change), True)
            self.assertIs(accepts(("alike", great, (2, 1, 3)), back), True)
            self.assertIs(accepts(("alike", (2, -1, 3), great), change), False)
            self.assertIs(accepts(("unlike", (2, -1, 3), great), ()), True)
            self.assertIs(accepts(("unlike", (2, 1, 3), great), ()), False)
            p, q, r, s = change
            # (2, 1, 3) has the value 3 at 0, 1 and the value 6 at 1, 1.
            self.assertIs(accepts(("taken", great, 3), (-q, p)), True)
            self.assertIs(accepts(("taken", great, 3), (-q, p + 1)), False)
            other = changed_by_hand((1, 1, 6), change)
            self.assertIs(accepts(("not taken", great, 59), (other, 7 * s + 2 * q, -7 * r - 2 * p)), True)

    def test_paths_that_come_to_the_one_too_early(self):
        claim, paper = certificates.certify_order_of((2, 1, 3))
        once_more = certificates.certify_composed(paper[-1][0], (2, 1, 3))
        twice_more = certificates.certify_composed(once_more[0][3], (2, 1, 3))
        thrice = certificates.certify_composed(twice_more[0][3], (2, 1, 3))
        longer = paper + tuple((step[0][3], step[1]) for step in (once_more, twice_more, thrice))
        self.assertEqual(claim[2], 3)
        self.assertIs(accepts(claim, paper), True)
        self.assertIs(accepts(("has order", (2, 1, 3), 6), longer), False)
        self.assertIs(accepts(("has order", (2, 1, 3), 4), longer[:3]), False)
        self.assertIs(accepts(("has order", (2, 1, 3), 2), paper[:1]), False)
        self.assertIs(accepts(("has order", (2, 1, 3), 1), ()), False)
        again = certificates.certify_composed((1, 1, 6), (1, 1, 6))
        for other in ((again[0][3], again[1]), again[0][3]):
            self.assertIs(accepts(("has order", (1, 1, 6), 2), (other,)), False)

    def test_what_composes_something_else(self):
        # Y with the other sign: the identity holds, the second condition does not.
        self.assertIs(accepts(("composed", (1, 0, 1), (1, 0, 1), (1, 0, 1)), (1, 0, 0, -1, 0, 1, 1, 0)), True)
        self.assertIs(accepts(("composed", (1, 0, 1), (1, 0, 1), (1, 0, 1)), (1, 0, 0, 1, 0, 1, -1, 0)), False)
        self.assertIs(accepts(("composed", (1, 0, 1), (1, 0, 1), (1, 0, 1)), (1, 0, 0, 1, 0, -1, 1, 0)), False)
        self.assertIs(accepts(("composed", (1, 0, 1), (1, 0, 1), (1, 0, 1)), (1, 0, 0, -1, 0, -1, -1, 0)), False)
        for form in REDUCED[-47]:
            for other in REDUCED[-47]:
                (_, _, _, third), numbers = certificates.certify_composed(form, other)
                upper, lower = numbers[:4], numbers[4:]
                opposite = (third[0], -third[1], third[2])
                self.assertIs(accepts(("composed", form, other, third), numbers), True)
                # It has the same values with Y turned, but is composed in another sense.
                turned = upper + tuple(-number for number in lower)
                self.assertIs(accepts(("composed", form, other, opposite), turned), False)
                self.check(("composed", other, form, third), numbers)

    def test_orders(self):
        for discriminant, prime, count, paper in (
                (-23, 59, 1, ((15, 1), (17, 1), (39, 1))), (-23, 59, 3, ((15, 1), (17, 1), (39, 1))),
                (-23, 59, 1, ((17, 1), (15, 1), (39, 1))), (-23, 59, 1, ((15, 1), (17, 1))),
                (-23, 59, 1, ((15, 1), (15, 1), (17, 1), (39, 1))), (-23, 59, 1, ()), (-23, 59, 0, ()),
                (-23, 59, 0, ((1,), (1,), (1,))),
                (-23, 59, 3, (tuple(number % 59 for number in class_polynomial(-23)),)),
                (-23, 2, 3, ((3, 1, 0, 1),)), (-23, 2, 3, ((1, 1, 0, 1), (1,))), (-23, 2, 1, ((1, 1), (1, 1), (1, 1))),
                (-23, 5, 1, ((0, 1), (0, 1), (0, 1))), (-23, 5, 3, ((0, 0, 0, 1),)),
                (-23, 23, 1, ((4, 1), (4, 1), (20, 1))),
                (-56, 3, 4, (tuple(number % 3 for number in class_polynomial(-56)),)), (-7, 3, 1, ((0, 1),))):
            claim = ("order", discriminant, prime, count)
            self.check(claim, paper)
        self.assertIs(accepts(("order", -23, 59, 1), ((15, 1), (17, 1), (39, 1))), True)
        self.assertIs(accepts(("order", -56, 3, 4), (tuple(number % 3 for number in class_polynomial(-56)),)), True)

    def test_factors_that_prove_nothing(self):
        # A simple factor of degree 1; one that is not irreducible; one that is no factor; the polynomial itself.
        for discriminant, prime in (
                (-23, 37), (-47, 43), (-23, 5), (-23, 2), (-56, 3), (-23, 59), (-39, 37), (-20, 29), (-31, 43)):
            claim = ("does not fall wholly", discriminant, prime)
            told = tuple(number % prime for number in class_polynomial(discriminant))
            papers = [(told,), (told[:-1],), ((1,),), ((0,),), ((),)] + [((number, 1),) for number in range(prime)]
            papers += [((number, other, 1),) for number in range(prime) for other in range(0, prime, 1 + prime // 8)]
            for paper in papers:
                self.check(claim, paper)

    def test_twins(self):
        paper = (3, 1, (2, 0, 7), 6, 1, 3, 1)
        self.assertIs(accepts(("twins", -56, 56, 23, 79), paper), True)
        for number in (1, 2, 7, 8, 14, 28):
            self.assertIs(accepts(("twins", -56, number, 23, 79), paper), True)
        for number in (3, 5, 55, 57, 112, 168, 0, -56, 1001, 5600):
            self.assertIs(accepts(("twins", -56, number, 23, 79), paper), False)
        # 3 x x + 2 x y + 5 y y is of another genus: it takes 3 at 1, 0 and 5 at 0, 1.
        for one, two, other, z, w in ((23, 3, (3, 2, 5), 1, 0), (23, 5, (3, 2, 5), 0, 1), (23, 3, (3, -2, 5), 1, 0)):
            for u, v in itertools.product(range(-8, 9), repeat=2):
                self.assertIs(accepts(("twins", -56, 1, one, two), (3, 1, other, z, w, u, v)), False)
        self.assertIs(accepts(("twins", -56, 1, 79, 79), (6, 1, (2, 0, 7), 6, 1, 3, 1)), False)
        self.assertIs(accepts(("twins", -56, 1, 23, 23), (3, 1, (1, 0, 14), 3, 1, 3, 1)), False)
        self.assertIs(accepts(("twins", -56, 1, 23, 2), (3, 1, (2, 0, 7), 1, 0, 4, 0)), False)
        self.assertIs(accepts(("twins", -56, 1, 23, 7), (3, 1, (2, 0, 7), 0, 1, 7, 0)), False)
        self.assertIs(accepts(("twins", -56, 1, 15, 79), (1, 1, (2, 0, 7), 6, 1, 3, 1)), False)
        self.assertIs(accepts(("twins", -56, 1, 23, 9), (3, 1, (2, 0, 7), 1, 1, 3, 0)), False)

    def test_twins_modulo_1000_and_1001(self):
        places = itertools.product(range(1, 300), range(1, 80))
        first, other = {}, {}
        for x, y in places:
            first[x * x + 14 * y * y] = (x, y)
            other[2 * x * x + 7 * y * y] = (x, y)
        for number in (999, 1000, 1001, 1002):
            one, two = next(
                (one, one + step) for one in first for step in range(number, 30000, number)
                if one + step in other and is_prime(one) and is_prime(one + step))
            u, v = next(
                (u, v) for u in range(56) for v in range(56) if (u * u + 14 * v * v - two) % 56 == 0)
            told = accepts(("twins", -56, number, one, two), (*first[one], (2, 0, 7), *other[two], u, v))
            self.assertIs(told, number <= 1000)

    def test_numbers_that_are_no_residues(self):
        for discriminant, prime, found in ((-23, 59, (20, 42, 44)), (-7, 3, (0,)), (-7, 11, (2,)), (-8, 7, (6,))):
            self.assertIs(accepts(("falls wholly", discriminant, prime), found), True)
            for at, root in enumerate(found):
                for other in (root - prime, root + prime, root + 2 * prime):
                    paper = tuple(sorted(found[:at] + (other,) + found[at + 1:]))
                    self.assertIs(accepts(("falls wholly", discriminant, prime), paper), False)
        for paper in (((-44, 1), (17, 1), (39, 1)), ((15, 1), (17, 1), (98, 1)), ((15, 1), (39, 1), (76, 1)),
                      ((15, 1), (17, 60), (39, 1)), ((15, 1), (17, 1, 0), (39, 1)), ((15, 1), (17, 1), (39, -58))):
            self.assertIs(accepts(("order", -23, 59, 1), paper), False)
        for factor in ((1, 1, 2, 1), (1, 1, -2, 1), (-1, 1, 0, 1), (1, 1, 0, 3), (1, 1, 0, 1, 0)):
            self.assertIs(accepts(("order", -23, 2, 3), (factor,)), False)
        for factor in ((5, 1), (-5, 1), (0, 6), (0, 1, 0), (10, 1)):
            self.assertIs(accepts(("does not fall wholly", -23, 5), (factor,)), False)

    def test_roots_that_stand_there_several_times(self):
        # Modulo 5 the class polynomial is x ^ 3.
        for paper in ((0, 0, 0), (0,), (0, 0), (0, 1, 2)):
            self.assertIs(accepts(("falls wholly", -23, 5), paper), False)

    def test_forms_that_are_alike_to_the_opposite(self):
        for change in CHANGES[::15] + GREAT_CHANGES:
            great = changed_by_hand((3, 2, 5), change)
            for other in ((3, 2, 5), (3, -2, 5)):
                self.assertIs(accepts(("not taken", great, 5), (other, 0, 1)), False)
                self.assertIs(accepts(("not taken", changed_by_hand((2, 0, 7), change), 5), (other, 0, 1)), True)

    def test_great_twins(self):
        # Values of x x + 14 y y just below and above 10 ^ 6.
        seen = set()
        for x, y in itertools.product(range(1, 1001), range(1, 268)):
            prime = x * x + 14 * y * y
            if 999000 < prime < 1001000:
                claim, paper = ("twins", -56, 1, prime, 79), (x, y, (2, 0, 7), 6, 1, 3, 1)
                told = accepts(claim, paper)
                self.assertIs(told, prime <= 10 ** 6 and is_prime(prime))
                seen.add((prime > 10 ** 6, is_prime(prime)))
        self.assertEqual(seen, set(itertools.product((False, True), repeat=2)))

    def test_primes_that_divide_the_discriminant(self):
        self.assertIs(accepts(("taken", (2, 0, 7), 7), (0, 1)), False)
        self.assertIs(accepts(("taken", (2, 0, 7), 2), (1, 0)), False)
        self.assertIs(accepts(("not taken", (1, 0, 14), 7), ((2, 0, 7), 0, 1)), False)
        self.assertIs(accepts(("falls wholly", -4, 2), (0,)), False)
        self.assertIs(accepts(("does not fall wholly", -23, 23), ((4, 1),)), False)
        self.assertIs(accepts(("does not fall wholly", -20, 5), ((0, 1),)), False)

    def test_great_primes(self):
        for prime in (10007, 10009):
            for x in range(1, 101):
                y = int((prime - x * x) ** 0.5)
                self.assertIs(accepts(("taken", (1, 0, 1), prime), (x, y)), False)
        self.assertIs(accepts(("taken", (1, 0, 1), 9973), (82, 57)), True)

    def test_reduced_forms_and_their_changes(self):
        for discriminant in DISCRIMINANTS[::9] + [-3, -4, -84, -400]:
            claim, paper = certificates.certify_residues(discriminant)
            if claim[0] == "residues tell":
                self.assertIs(accepts(claim, paper), True)
                self.assertIs(accepts(claim, paper[:-1]), False)
                self.assertIs(accepts(claim, paper + paper[-1:]), False)
                self.check(claim, ((1, 0, 0, 1),) * len(paper))
            for form in REDUCED[discriminant]:
                told = ("residues do not tell", discriminant)
                self.assertIs(accepts(told, (form,)), accepted_by_hand(told, (form,)))
                great = changed_by_hand(form, CHANGES[40])
                self.assertIs(accepts(told, (great,)), accepted_by_hand(told, (form,)))
        self.assertIs(accepts(("residues do not tell", -56), ((2, 1, 3),)), False)

    def test_wrong_rings(self):
        for claim in (
                ("rings", -23, 59, 2, ((42, 44, 20),)), ("rings", -23, 59, 2, ((20, 44, 42),)),
                ("rings", -23, 59, 2, ((20, 42),)),
                ("rings", -23, 59, 2, ((20,), (42,), (44,))), ("rings", -23, 59, 2, ()),
                ("rings", -23, 59, 2, (20, 42, 44)),
                ("rings", -23, 59, 2, ((20, 42, 44), ())), ("rings", -23, 13, 2, ()), ("rings", -23, 5, 2, ()),
                ("rings", -23, 23, 2, ((4,), (20,))), ("rings", -7, 2, 2, ((1,),)),
                ("rings", -20, 29, 2, ((12,), (23,))),
                ("rings", -20, 29, 2, ()), ("rings", -23, 59, 5, ((20, 42, 44),)), ("rings", -23, 59, 1, ()),
                ("rings", -56, 23, 2, ()),
                ("rings", -23, 10007, 2, ())):
            self.assertIs(accepts(claim, ()), False)
        told = certificates.certify_rings(-104, 107, 3)[0]
        self.assertEqual(len(told[4]), 2)
        self.assertIs(accepts(told, ()), True)
        self.assertIs(accepts(told[:4] + (told[4][::-1],), ()), False)
        self.assertIs(accepts(told[:4] + (told[4][:1],), ()), False)

    def test_polynomials(self):
        for discriminant in DISCRIMINANTS[::20]:
            told = class_polynomial(discriminant)
            self.assertIs(accepts(("class polynomial", discriminant, told), ()), True)
            for wrong in (told[::-1], told + (0,), told[:-1], (-told[0] - 1,) + told[1:], told + (1,)):
                self.assertIs(accepts(("class polynomial", discriminant, wrong), ()), False)

    def test_first_forms(self):
        for discriminant in DISCRIMINANTS[::5]:
            first = first_by_hand(discriminant)
            self.assertIs(accepts(("has order", first, 1), ()), True)
            self.assertIs(accepts(("has order", changed_by_hand(first, CHANGES[-11]), 1), ()), True)
            for form in REDUCED[discriminant][1:]:
                self.assertIs(accepts(("has order", form, 1), ()), False)
