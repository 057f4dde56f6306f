"""[3]: the error classes."""

import unittest

import allcells.errors
from allcells.errors import CellError

NAMES = ["CellError", "InvalidName", "InvalidTerm", "InvalidSaying", "InvalidStep", "InvalidRow", "Unknown",
         "Contradiction", "Needless", "TooLong", "NothingToUndo", "Unreadable"]


class Errors(unittest.TestCase):
    def classes(self):
        return [getattr(allcells.errors, name) for name in NAMES]

    def test_twelve_classes_are_defined_here(self):
        for name, kind in zip(NAMES, self.classes()):
            self.assertEqual((kind.__name__, kind.__module__), (name, "allcells.errors"))
        self.assertEqual(len(set(self.classes())), 12)

    def test_bases(self):
        self.assertEqual(CellError.__bases__, (ValueError,))
        for kind in self.classes()[1:]:
            self.assertEqual(kind.__bases__, (CellError,))

    def test_value_is_stored_itself(self):
        for value in ["a", "", 7, None, True, [1, [2]], {"a": [1]}, (1, [2]), object(), CellError]:
            for kind in self.classes():
                self.assertIs(kind(value).value, value)
                self.assertIs(kind(value=value).value, value)

    def test_one_argument(self):
        for kind in self.classes():
            with self.assertRaises(TypeError):
                kind()
            with self.assertRaises(TypeError):
                kind(1, 2)

    def test_raised_and_caught(self):
        for kind in self.classes():
            with self.assertRaises(CellError) as caught:
                raise kind([1])
            self.assertEqual(caught.exception.value, [1])
            with self.assertRaises(ValueError):
                raise kind(value=[1])


if __name__ == "__main__":
    unittest.main()
