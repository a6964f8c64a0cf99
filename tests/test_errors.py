"""Promise [3]: the error classes."""

import unittest

from inforce.errors import (
    DoubleDay, InvalidDay, InvalidDeed, LateDeed, NothingToUndo, PriceError, UnknownDeed, Unreadable,
)

KINDS = [InvalidDay, DoubleDay, InvalidDeed, UnknownDeed, LateDeed, NothingToUndo, Unreadable]
VALUES = [
    None, 0, -7, 10 ** 30, True, False, "", "day", b"x", (), (1, (2,)), [], [1, [2]], {}, {"a": [1]},
    object(), ValueError("x"),
]


class Errors(unittest.TestCase):
    def test_value_is_the_very_thing(self):
        for kind in [PriceError] + KINDS:
            for value in VALUES:
                self.assertIs(kind(value).value, value)
                self.assertIs(kind(value=value).value, value)

    def test_value_is_told_when_raised(self):
        for kind in [PriceError] + KINDS:
            for value in VALUES:
                with self.assertRaises(kind) as caught:
                    raise kind(value)
                self.assertIs(caught.exception.value, value)
                with self.assertRaises(kind) as caught:
                    raise kind(value=value)
                self.assertIs(caught.exception.value, value)

    def test_value_is_not_copied(self):
        value = [1]
        error = InvalidDeed(value)
        value.append(2)
        self.assertEqual(error.value, [1, 2])

    def test_just_one_argument(self):
        for kind in [PriceError] + KINDS:
            with self.assertRaises(TypeError):
                kind()
            with self.assertRaises(TypeError):
                kind(1, 2)
            with self.assertRaises(TypeError):
                kind(day=1)

    def test_bases(self):
        self.assertEqual(PriceError.__bases__, (ValueError,))
        for kind in KINDS:
            self.assertEqual(kind.__bases__, (PriceError,))
            self.assertIsInstance(kind(1), PriceError)
            self.assertIsInstance(kind(1), ValueError)
            for other in KINDS:
                self.assertEqual(issubclass(kind, other), kind is other)
            self.assertNotIsInstance(PriceError(1), kind)

    def test_where_they_are_defined(self):
        for kind in [PriceError] + KINDS:
            self.assertEqual(kind.__module__, "inforce.errors")


if __name__ == "__main__":
    unittest.main()
