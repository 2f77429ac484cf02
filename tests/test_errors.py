"""The errors: what they stand under and what they keep (point 4)."""

import unittest

from classprimes import errors
from classprimes.errors import (
    BadText, ClassError, Divides, InvalidChange, InvalidCurve, InvalidDiscriminant, InvalidForm, InvalidLines,
    InvalidNumber, InvalidPrime, InvalidStep, NoSquare, NotFirst, OtherDiscriminant)
from tests.common import GREAT, nested

WITH_GIVEN = (
    InvalidDiscriminant, InvalidForm, InvalidChange, InvalidNumber, InvalidPrime, InvalidStep, InvalidCurve,
    OtherDiscriminant, Divides, NoSquare, NotFirst)
ATTRIBUTES = [(each, "given") for each in WITH_GIVEN] + [(InvalidLines, "index"), (BadText, "spot")]
KEPT = [
    None, True, False, 0, 1, -23, GREAT, "", "text", "{}", b"bytes", (), (1, 1, 6), (True, None), [], [1, [2, [3]]],
    {}, {"a": [1]}, {1}, ValueError("inner"), object(), int, nested(list, 30), nested(tuple, 30),
]


class ErrorsTest(unittest.TestCase):
    def test_base(self):
        self.assertEqual(ClassError.__mro__, (ClassError, ValueError, Exception, BaseException, object))
        self.assertEqual(vars(ClassError()), {})
        with self.assertRaises(ValueError):
            raise ClassError()

    def test_stand_under_the_base_alone(self):
        for each, _ in ATTRIBUTES:
            self.assertEqual(each.__mro__, (each, ClassError, ValueError, Exception, BaseException, object))

    def test_names(self):
        names = [each.__name__ for each, _ in ATTRIBUTES]
        self.assertEqual(len(set(names)), 13)
        for each, name in zip(ATTRIBUTES, names):
            self.assertIs(getattr(errors, name), each[0])

    def test_keep_what_is_given_by_position(self):
        for each, attribute in ATTRIBUTES:
            for value in KEPT:
                self.assertIs(getattr(each(value), attribute), value)

    def test_keep_what_is_given_by_name(self):
        for each, attribute in ATTRIBUTES:
            for value in KEPT:
                self.assertIs(getattr(each(**{attribute: value}), attribute), value)

    def test_do_not_change_what_they_keep(self):
        for each, attribute in ATTRIBUTES:
            value = [1, [2, None], "x"]
            self.assertEqual(getattr(each(value), attribute), [1, [2, None], "x"])
            self.assertEqual(value, [1, [2, None], "x"])

    def test_two_objects_keep_their_own(self):
        for each, attribute in ATTRIBUTES:
            one, two = each(1), each(2)
            self.assertEqual((getattr(one, attribute), getattr(two, attribute)), (1, 2))

    def test_raised_ones_are_caught_by_the_base(self):
        for each, attribute in ATTRIBUTES:
            for base in (each, ClassError, ValueError):
                with self.assertRaises(base) as caught:
                    raise each([1])
                self.assertIs(type(caught.exception), each)
                self.assertEqual(getattr(caught.exception, attribute), [1])

    def test_no_other_class_catches_them(self):
        for each, _ in ATTRIBUTES:
            for other, _ in ATTRIBUTES:
                self.assertEqual(issubclass(each, other), each is other)
            for other in (TypeError, LookupError, ArithmeticError, RuntimeError, UnicodeError):
                self.assertFalse(issubclass(each, other))
