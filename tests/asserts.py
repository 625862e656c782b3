"""What the tests of several files ask for."""

import inspect
import unittest

from lateplans.plans import Plan


def shown(value):
    """Like repr, Plans told by their texts."""
    if isinstance(value, Plan):
        return f"Plan.of({value.text!r})"
    if isinstance(value, list):
        return "[" + ", ".join(shown(item) for item in value) + "]"
    if isinstance(value, tuple):
        return "(" + "".join(shown(item) + ", " for item in value) + ")"
    return repr(value)


def listed(value):
    """The same with lists in the places of all tuples."""
    return [listed(item) for item in value] if isinstance(value, (list, tuple)) else value


class Case(unittest.TestCase):
    def refused(self, kind, values, call, *rest, **named):
        """The call raises an error of just this class, with just these values."""
        with self.assertRaises(kind) as caught:
            call(*rest, **named)
        self.assertIs(type(caught.exception), kind)
        self.assertEqual(vars(caught.exception), values)
        for name, value in values.items():
            self.assertIs(type(getattr(caught.exception, name)), type(value))

    def denied(self, kind, values, call, *rest):
        """It is refused with arguments by position and by name, and with lists for tuples."""
        names = list(inspect.signature(call).parameters)
        lists = [value if name == "thing" else listed(value) for name, value in zip(names, rest)]
        before = shown(lists)
        self.refused(kind, values, call, *rest)
        self.refused(kind, values, call, **dict(zip(names, rest)))
        self.refused(kind, values, call, *lists)
        self.assertEqual(shown(lists), before)

    def same(self, result, expected):
        """Equal, and of the same kinds at any depth: no list for a tuple, no 1 for True."""
        self.assertEqual(result, expected)
        self.assertEqual(shown(result), shown(expected))

    def asked(self, call, *rest):
        """What the call returns: the same if asked again, by names, with lists for tuples that are changed then."""
        names = list(inspect.signature(call).parameters)
        result = call(*rest)
        told = shown(result)
        if isinstance(result, list):
            result.append("more")
            result = call(*rest)
        lists = [value if name == "thing" else listed(value) for name, value in zip(names, rest)]
        before = shown(lists)
        for again in (call(*rest), call(**dict(zip(names, rest))), call(*lists)):
            self.assertEqual(shown(again), told)
            self.assertEqual(shown(lists), before)
        return result
