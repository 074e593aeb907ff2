"""The error classes."""

import unittest

from litmuscore import errors
from litmuscore.errors import (
    ActionNotPossible, InvalidExecution, LitmusError, NotFinished, TextError, TooManySituations, TooManySlots,
)

DERIVED = (InvalidExecution, TooManySituations, TooManySlots, ActionNotPossible, NotFinished, TextError)


class ErrorsTest(unittest.TestCase):
    def test_base_class(self):
        self.assertEqual(LitmusError.__bases__, (ValueError,))

    def test_each_is_a_direct_subclass_of_the_base_class_alone(self):
        for error in DERIVED:
            self.assertEqual(error.__bases__, (LitmusError,), error)
            self.assertEqual(error.__module__, "litmuscore.errors")

    def test_there_are_seven(self):
        found = [name for name in vars(errors) if isinstance(vars(errors)[name], type)]
        self.assertEqual(len(found), 7)

    def test_attributes(self):
        self.assertEqual(InvalidExecution(("order", (0, 1), (0, 2))).violation, ("order", (0, 1), (0, 2)))
        self.assertEqual(TooManySituations(4000).limit, 4000)
        self.assertEqual(TooManySlots(4).many, 4)
        self.assertEqual(ActionNotPossible(0).place, 0)
        self.assertEqual(vars(NotFinished()), {})
        error = TextError(2, 9)
        self.assertEqual((error.line, error.column), (2, 9))

    def test_an_error_can_be_raised_and_caught_as_a_value_error(self):
        for error in (InvalidExecution(("cores",)), TooManySituations(1), TooManySlots(5), ActionNotPossible(3),
                      NotFinished(), TextError(1, 1)):
            with self.assertRaises(ValueError) as caught:
                raise error
            self.assertIs(caught.exception, error)
            self.assertIsInstance(str(error), str)
