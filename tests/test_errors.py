"""The error classes of the interface."""

import unittest

from batchends import errors

NAMES = ("Unreadable", "InvalidCommand", "BatchFull", "TooManyBatches", "NotClosed", "NoSuchBatch")


class ErrorClasses(unittest.TestCase):
    def test_the_base_is_a_value_error(self):
        self.assertTrue(issubclass(errors.EndError, ValueError))
        self.assertEqual(errors.EndError.__bases__, (ValueError,))

    def test_each_error_has_this_base_and_no_other(self):
        for name in NAMES:
            with self.subTest(name):
                self.assertEqual(getattr(errors, name).__bases__, (errors.EndError,))

    def test_they_are_defined_in_their_file(self):
        for name in ("EndError",) + NAMES:
            with self.subTest(name):
                self.assertEqual(getattr(errors, name).__module__, "batchends.errors")
                self.assertEqual(getattr(errors, name).__name__, name)

    def test_they_are_created_with_a_text(self):
        for name in ("EndError",) + NAMES:
            with self.subTest(name):
                self.assertEqual(str(getattr(errors, name)("why not")), "why not")


if __name__ == "__main__":
    unittest.main()
