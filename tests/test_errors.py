"""The interface of boxheap/errors.py."""

import unittest

from boxheap import errors

NAMES = ["NoRoom", "NoTable", "NoPlace", "NoLanes", "NoFloor"]


class ErrorsTest(unittest.TestCase):
    def test_heap_error_is_a_value_error(self):
        self.assertEqual(errors.HeapError.__bases__, (ValueError,))

    def test_each_refusal_stands_straight_under_heap_error(self):
        for name in NAMES:
            with self.subTest(name=name):
                self.assertEqual(getattr(errors, name).__bases__, (errors.HeapError,))

    def test_refusals_are_classes_of_their_own(self):
        self.assertEqual(len({getattr(errors, name) for name in NAMES}), len(NAMES))
        for name in NAMES:
            with self.subTest(name=name):
                self.assertEqual(getattr(errors, name).__name__, name)

    def test_they_are_defined_in_their_file(self):
        for name in NAMES + ["HeapError"]:
            with self.subTest(name=name):
                self.assertEqual(getattr(errors, name).__module__, "boxheap.errors")

    def test_they_can_be_raised_and_caught(self):
        for name in NAMES:
            with self.subTest(name=name), self.assertRaises(errors.HeapError):
                raise getattr(errors, name)("refused")


if __name__ == "__main__":
    unittest.main()
