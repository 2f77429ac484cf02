"""What each function refuses: the error of the first wrong argument, with the whole value."""

import itertools
import unittest
from decimal import Decimal
from fractions import Fraction

from classprimes import (
    certificates, composing, counts, curves, discriminants, falling, forms, genera, primes, singular, steps, texts,
    values)
from classprimes.errors import (
    ClassError, Divides, InvalidChange, InvalidCurve, InvalidDiscriminant, InvalidForm, InvalidNumber, InvalidPrime,
    InvalidStep, NoSquare, NotFirst, OtherDiscriminant)
from tests.common import (
    GREAT, NO_CHANGES, NO_DISCRIMINANTS, NO_FORMS, NO_NUMBERS, NO_NUMBERS_FROM_0, NO_NUMBERS_FROM_1, NO_PRIMES, nested)

DISCRIMINANT = ("discriminant", -20, InvalidDiscriminant, NO_DISCRIMINANTS)
FORM = ("form", (2, 2, 3), InvalidForm, NO_FORMS)
OTHER = ("other", (1, 0, 5), InvalidForm, NO_FORMS)
CHANGE = ("change", (1, 1, 0, 1), InvalidChange, NO_CHANGES)
NO_PRIME_TO_20 = NO_NUMBERS_FROM_1 + [2, 4, 5, 10, 20, 35, 9998, 9995, 10000]
PRIME = ("prime", 7, InvalidPrime, NO_PRIMES)
NO_COUNTS = NO_NUMBERS + [-1001, 1001, 1002, -5000, GREAT, -GREAT]
NO_MODULI = NO_NUMBERS + [0, -1, -20, 1001, 1002, 10000, GREAT, -GREAT]
NO_DIGITS = NO_NUMBERS + [-1, -2, -30, 31, 32, 1000, GREAT, -GREAT]
STEP = ("step", 3, InvalidStep, NO_NUMBERS + [0, 1, -2, -3, 4, 5, 6, 23, GREAT, -GREAT])
FIELD = ("prime", 7, InvalidPrime, NO_PRIMES + [2, 3, 1009, 1013, 9973])
SMALL_FIELD = ("prime", 7, InvalidPrime, NO_PRIMES + [2, 3, 101, 103, 997, 1009, 9973])
NO_CURVES = NO_NUMBERS + [
    0, 1, GREAT, [1, 3], "13", b"13", {1: 1, 3: 3}, range(2), (1,), (1, 3, 0), (1, 3, 1), ((1, 3),), ([1, 3],),
    ([1], [3]), ((1,), (3,)), (True, 3), (1, True), (False, 3), (1, False), ("1", 3), (1, "3"), (None, 3), (1, None),
    (Fraction(1), 3), (1, Decimal(3)), (object(), 3), (-1, 3), (1, -1), (1, -4), (7, 3), (1, 7), (8, 3), (1, 10),
    (GREAT, 3), (1, -GREAT), (nested(list, 29), 3), (1, nested(tuple, 29)),
    # 7 divides 4 A ^ 3 + 27 B B.
    (0, 0), (1, 2), (1, 5), (2, 2), (2, 5), (4, 2), (4, 5)]
CURVE = ("curve", (1, 3), InvalidCurve, NO_CURVES)
NO_POINTS = NO_NUMBERS + [-1, -8, 2001, 2002, GREAT, -GREAT]
# Each parameter with a value that is let, the error for one that is not, and such values.
FUNCTIONS = [
    (discriminants.parts_of, [DISCRIMINANT]),
    (discriminants.symbol, [DISCRIMINANT, ("number", 7, InvalidNumber, NO_NUMBERS_FROM_1)]),
    (forms.discriminant_of, [FORM]),
    (forms.value_of, [FORM, ("x", -3, InvalidNumber, NO_NUMBERS), ("y", 2, InvalidNumber, NO_NUMBERS)]),
    (forms.changed, [FORM, CHANGE]),
    (forms.reduced, [FORM]),
    (forms.change_between, [FORM, OTHER]),
    (forms.are_alike, [FORM, OTHER]),
    (forms.opposite, [FORM]),
    (forms.automorphs, [FORM]),
    (forms.classes, [DISCRIMINANT]),
    (forms.first_form, [DISCRIMINANT]),
    (values.solutions, [FORM, ("number", 7, InvalidNumber, NO_NUMBERS_FROM_0)]),
    (values.solutions_of_all, [DISCRIMINANT, ("number", 7, InvalidNumber, NO_PRIME_TO_20)]),
    (composing.composed, [FORM, OTHER]),
    (composing.composing_numbers, [FORM, OTHER]),
    (composing.power, [FORM, ("count", -3, InvalidNumber, NO_COUNTS)]),
    (composing.order_of, [FORM]),
    (composing.kind_of, [DISCRIMINANT]),
    (composing.own_opposites, [DISCRIMINANT]),
    (composing.squares, [DISCRIMINANT]),
    (genera.residues_of, [FORM]),
    (genera.genera, [DISCRIMINANT]),
    (genera.do_residues_tell, [DISCRIMINANT]),
    (genera.twins, [DISCRIMINANT, ("number", 7, InvalidNumber, NO_MODULI)]),
    (genera.twins, [("discriminant", -23, InvalidDiscriminant, NO_DISCRIMINANTS),
                    ("number", 7, InvalidNumber, NO_MODULI)]),
    (primes.classes_of, [DISCRIMINANT, PRIME]),
    (primes.order_at, [DISCRIMINANT, PRIME]),
    (primes.is_taken, [FORM, PRIME]),
    (primes.first_prime, [FORM]),
    (singular.invariant, [FORM, ("count", 3, InvalidNumber, NO_DIGITS)]),
    (singular.class_polynomial, [DISCRIMINANT]),
    (falling.factors, [DISCRIMINANT, PRIME]),
    (falling.roots, [DISCRIMINANT, PRIME]),
    (falling.does_fall_wholly, [DISCRIMINANT, PRIME]),
    (steps.phi, [STEP, ("x", -3, InvalidNumber, NO_NUMBERS), ("y", 2, InvalidNumber, NO_NUMBERS)]),
    (steps.rings, [DISCRIMINANT, ("prime", 29, InvalidPrime, NO_PRIMES), STEP]),
    (counts.hurwitz, [("number", 7, InvalidNumber, NO_NUMBERS_FROM_0)]),
    (curves.points_of, [FIELD, CURVE]),
    (curves.invariant_of, [FIELD, CURVE]),
    (curves.curve_with, [FIELD, ("number", 7, InvalidNumber, NO_POINTS)]),
    (curves.curves_with, [FIELD, ("number", 7, InvalidNumber, NO_POINTS)]),
    (curves.discriminant_of_curve, [SMALL_FIELD, CURVE]),
    (texts.form_text, [FORM]),
    (certificates.certify_alike, [FORM, OTHER]),
    (certificates.certify_composed, [FORM, OTHER]),
    (certificates.certify_order_of, [FORM]),
    (certificates.certify_taken, [FORM, PRIME]),
    (certificates.certify_residues, [DISCRIMINANT]),
    (certificates.certify_twins, [DISCRIMINANT, ("number", 7, InvalidNumber, NO_MODULI)]),
    (certificates.certify_polynomial, [DISCRIMINANT]),
    (certificates.certify_order, [DISCRIMINANT, PRIME]),
    (certificates.certify_falls, [DISCRIMINANT, PRIME]),
    (certificates.certify_rings, [DISCRIMINANT, ("prime", 29, InvalidPrime, NO_PRIMES), STEP]),
]
# Arguments that are wrong only together, and the one that is told.
LAST = [
    (composing.composed, {"form": (2, 2, 3), "other": (1, 1, 6)}, OtherDiscriminant, "other"),
    (composing.composing_numbers, {"form": (2, 2, 3), "other": (1, 1, 6)}, OtherDiscriminant, "other"),
    (primes.classes_of, {"discriminant": -20, "prime": 5}, Divides, "prime"),
    (primes.order_at, {"discriminant": -20, "prime": 2}, Divides, "prime"),
    (certificates.certify_composed, {"form": (2, 2, 3), "other": (1, 1, 6)}, OtherDiscriminant, "other"),
    (certificates.certify_taken, {"form": (2, 2, 3), "prime": 5}, Divides, "prime"),
    (certificates.certify_order, {"discriminant": -20, "prime": 5}, Divides, "prime"),
    (certificates.certify_order, {"discriminant": -20, "prime": 11}, NoSquare, "prime"),
    (certificates.certify_falls, {"discriminant": -20, "prime": 2}, Divides, "prime"),
]
for RINGS in (steps.rings, certificates.certify_rings):
    LAST += [
        (RINGS, {"discriminant": -23, "prime": 23, "step": 2}, Divides, "prime"),
        # The symbol at the step is not 1, or the prime is the step, too.
        (RINGS, {"discriminant": -20, "prime": 5, "step": 2}, Divides, "prime"),
        (RINGS, {"discriminant": -20, "prime": 2, "step": 2}, Divides, "prime"),
        (RINGS, {"discriminant": -23, "prime": 13, "step": 3}, NotFirst, "prime"),
        (RINGS, {"discriminant": -7, "prime": 2, "step": 2}, NotFirst, "prime"),
        # The symbol at the step is not 1, too.
        (RINGS, {"discriminant": -20, "prime": 7, "step": 2}, NotFirst, "prime"),
        (RINGS, {"discriminant": -20, "prime": 29, "step": 2}, NoSquare, "step"),
        (RINGS, {"discriminant": -4, "prime": 5, "step": 3}, NoSquare, "step"),
    ]


class RefusalsTest(unittest.TestCase):
    def check(self, call, error, wrong):
        with self.assertRaises(ClassError) as caught:
            call()
        self.assertIs(type(caught.exception), error)
        self.assertIs(caught.exception.given, wrong)

    def test_each_wrong_value_of_each_parameter(self):
        for function, parameters in FUNCTIONS:
            for place, (name, _, error, wrong_ones) in enumerate(parameters):
                for wrong in wrong_ones:
                    arguments = [parameter[1] for parameter in parameters]
                    arguments[place] = wrong
                    with self.subTest(function=function.__name__, name=name, wrong=repr(wrong)[:80]):
                        self.check(lambda: function(*arguments), error, wrong)

    def test_first_wrong_one_of_several(self):
        for function, parameters in FUNCTIONS:
            for places in self.subsets(len(parameters)):
                for wrong_ones in itertools.islice(itertools.product(
                        *[parameters[place][3][::7] for place in places]), 500):
                    arguments = {parameter[0]: parameter[1] for parameter in parameters}
                    for place, wrong in zip(places, wrong_ones):
                        arguments[parameters[place][0]] = wrong
                    error = parameters[places[0]][2]
                    with self.subTest(function=function.__name__, places=places):
                        self.check(lambda: function(*arguments.values()), error, wrong_ones[0])
                        backwards = {name: arguments[name] for name in reversed(list(arguments))}
                        self.check(lambda: function(**backwards), error, wrong_ones[0])

    def subsets(self, count):
        return [places for many in range(1, count + 1) for places in itertools.combinations(range(count), many)]

    def test_all_wrong_values_with_another_wrong_one_behind(self):
        for function, parameters in FUNCTIONS:
            for place, (name, _, error, wrong_ones) in enumerate(parameters[:-1]):
                for wrong in wrong_ones:
                    arguments = [parameter[1] for parameter in parameters[:place]]
                    arguments += [wrong] + [[None] for _ in parameters[place + 1:]]
                    with self.subTest(function=function.__name__, name=name, wrong=repr(wrong)[:80]):
                        self.check(lambda: function(*arguments), error, wrong)

    def test_what_is_told_last(self):
        for function, arguments, error, name in LAST:
            backwards = {each: arguments[each] for each in reversed(list(arguments))}
            self.check(lambda: function(*arguments.values()), error, arguments[name])
            self.check(lambda: function(**backwards), error, arguments[name])

    def test_all_wrong_values_ahead_of_what_is_told_last(self):
        parameters_of = dict(FUNCTIONS)
        for function, arguments, _, _ in LAST:
            for name, _, error, wrong_ones in parameters_of[function]:
                for wrong in wrong_ones:
                    with self.subTest(function=function.__name__, name=name, wrong=repr(wrong)[:80]):
                        changed = {**arguments, name: wrong}
                        self.check(lambda: function(*changed.values()), error, wrong)
                        self.check(lambda: function(**changed), error, wrong)

    def test_right_values_are_let_by_position_and_by_name(self):
        for function, parameters in FUNCTIONS:
            arguments = {parameter[0]: parameter[1] for parameter in parameters}
            self.assertEqual(repr(function(**arguments)), repr(function(*arguments.values())))

    def test_refused_values_are_not_changed(self):
        for function, parameters in FUNCTIONS:
            for place, parameter in enumerate(parameters):
                wrong = [2, [1], 3]
                arguments = [each[1] for each in parameters]
                arguments[place] = wrong
                self.check(lambda: function(*arguments), parameter[2], wrong)
                self.assertEqual(wrong, [2, [1], 3])

    def test_questions_refuse_nothing(self):
        for value in NO_DISCRIMINANTS + NO_FORMS[len(NO_NUMBERS) + 4:] + NO_CHANGES[len(NO_NUMBERS) + 3:]:
            self.assertIs(discriminants.is_discriminant(value=value), False)
            self.assertIs(forms.is_form(value=value), False)
