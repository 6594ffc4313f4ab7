"""Promises 4 and 17 of stage 1: the error classes and their fields."""

import unittest

from paircounts import errors

NAMES = [
    "InvalidRow", "InvalidCounts", "InvalidRuns", "InvalidSwap", "InvalidPattern", "InvalidNumber", "InvalidStrands",
    "InvalidCommand", "Different", "NothingToUndo", "TooLarge", "InvalidText",
]


class ErrorClasses(unittest.TestCase):
    def test_pair_error_is_a_value_error(self):
        self.assertEqual(errors.PairError.__bases__, (ValueError,))

    def test_every_class_is_directly_under_pair_error(self):
        for name in NAMES:
            self.assertEqual(getattr(errors, name).__bases__, (errors.PairError,), name)

    def test_most_are_constructed_with_one_string(self):
        for name in ["PairError", *NAMES[:10]]:
            self.assertEqual(str(getattr(errors, name)("a reason")), "a reason", name)

    def test_too_large_has_its_limit(self):
        for limit in [40, 200]:
            self.assertEqual(errors.TooLarge(limit).limit, limit)
            self.assertIs(type(str(errors.TooLarge(limit))), str)

    def test_invalid_text_has_its_index(self):
        self.assertIsNone(errors.InvalidText(None).index)
        for index in [0, 7]:
            self.assertEqual(errors.InvalidText(index).index, index)
            self.assertIs(type(str(errors.InvalidText(index))), str)
