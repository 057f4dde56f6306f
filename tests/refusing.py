"""What all tests of errors look at."""

import unittest

from oracle import all_new


class Refusing(unittest.TestCase):
    def refused(self, kind, value, call, *given):
        """Just this error with just this value, which is new; what was passed is as before."""
        before = repr(given)
        with self.assertRaises(kind) as caught:
            call(*given)
        self.assertIs(type(caught.exception), kind)
        self.assertEqual(repr(caught.exception.value), repr(value))
        self.assertTrue(all_new(caught.exception.value, list(given)))
        self.assertEqual(repr(given), before)
