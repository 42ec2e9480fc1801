"""Promise [3]: the error classes and their value."""

import unittest

from lookcrowd.errors import (
    CrowdError, DoubleName, DoubleRule, InvalidBox, InvalidCrowd, InvalidName, InvalidRule, NotAble, NothingToUndo,
    UnlikeKinds, Unreadable)

OTHERS = [DoubleName, DoubleRule, InvalidBox, InvalidCrowd, InvalidName, InvalidRule, NotAble, NothingToUndo,
          UnlikeKinds, Unreadable]
VALUES = [0, -3, 10 ** 40, "", "a text", b"bytes", None, True, [], [1, [2]], (), ("a", "b", "c"), ([1], [2]), {},
          {"a": [1]}, object(), ValueError("x"), InvalidName]


class ErrorClasses(unittest.TestCase):

    def test_value_by_position_and_by_name(self):
        for error in [CrowdError] + OTHERS:
            for value in VALUES:
                self.assertIs(error(value).value, value)
                self.assertIs(error(value=value).value, value)

    def test_value_is_the_very_list_that_grows(self):
        for error in [CrowdError] + OTHERS:
            inner = [1]
            grown = [inner]
            one, other = error(grown), error(value=grown)
            grown.append(2)
            inner.append(3)
            for raised in (one, other):
                self.assertIs(raised.value, grown)
                self.assertEqual(raised.value, [[1, 3], 2])

    def test_value_stays_through_raising(self):
        for error in [CrowdError] + OTHERS:
            value = ["told"]
            with self.assertRaises(error) as caught:
                raise error(value)
            self.assertIs(caught.exception.value, value)

    def test_values_of_two_errors_are_apart(self):
        one, other = NotAble(1), NotAble(2)
        self.assertEqual([one.value, other.value], [1, 2])

    def test_each_is_a_crowd_error_and_a_value_error(self):
        self.assertTrue(issubclass(CrowdError, ValueError))
        for error in OTHERS:
            self.assertTrue(issubclass(error, CrowdError))
            self.assertTrue(issubclass(error, ValueError))
            self.assertIsInstance(error(1), CrowdError)
            self.assertIsInstance(error(1), ValueError)
            self.assertNotIsInstance(CrowdError(1), error)

    def test_none_is_another_one(self):
        for error in OTHERS:
            for other in OTHERS:
                self.assertEqual(issubclass(error, other), error is other)

    def test_names(self):
        names = ["CrowdError", "DoubleName", "DoubleRule", "InvalidBox", "InvalidCrowd", "InvalidName", "InvalidRule",
                 "NotAble", "NothingToUndo", "UnlikeKinds", "Unreadable"]
        self.assertEqual([error.__name__ for error in [CrowdError] + OTHERS], names)
        self.assertEqual({error.__module__ for error in [CrowdError] + OTHERS}, {"lookcrowd.errors"})


if __name__ == "__main__":
    unittest.main()
