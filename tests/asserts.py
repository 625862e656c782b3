"""What the tests of several files ask for."""

import unittest


class Case(unittest.TestCase):
    def refused(self, kind, values, call, *rest, **named):
        """The call raises an error of just this class, with just these values."""
        with self.assertRaises(kind) as caught:
            call(*rest, **named)
        self.assertIs(type(caught.exception), kind)
        self.assertEqual(vars(caught.exception), values)
        for name, value in values.items():
            self.assertIs(type(getattr(caught.exception, name)), type(value))

    def same(self, result, expected):
        """Equal, and of the same kinds at any depth: no list for a tuple, no 1 for True."""
        self.assertEqual(result, expected)
        self.assertEqual(repr(result), repr(expected))
