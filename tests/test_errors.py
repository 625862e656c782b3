"""Points [2] and [22]: the error classes."""

import unittest

from lateplans import errors
from tests.asserts import Case

VALUES = {
    "AllKnown": (), "BadAnswer": ("answer",), "BadLine": ("number",), "BadPair": ("place",),
    "BadText": ("piece",), "Known": ("name",), "NoNumber": ("number",), "NoPlace": ("number",),
    "NoPlan": ("name",), "NoWork": ("name",), "NothingDone": (), "OtherWorks": (),
}


class Errors(Case):
    def test_plan_error_is_a_value_error(self):
        self.assertEqual(errors.PlanError.__bases__, (ValueError,))

    def test_each_is_directly_under_plan_error(self):
        for word in VALUES:
            self.assertEqual(getattr(errors, word).__bases__, (errors.PlanError,), word)

    def test_there_are_no_others(self):
        own = {word for word, value in vars(errors).items() if isinstance(value, type)}
        self.assertEqual(own, {"PlanError", *VALUES})

    def test_values_by_position_and_by_name(self):
        for word, names in VALUES.items():
            kind = getattr(errors, word)
            for value in ("a", 3, (1, ("x",))):
                by_place = kind(*[value for _ in names])
                by_name = kind(**{name: value for name in names})
                for error in (by_place, by_name):
                    self.assertEqual(vars(error), {name: value for name in names}, word)

    def test_each_can_be_raised_and_caught(self):
        for word, names in VALUES.items():
            kind = getattr(errors, word)
            self.refused(kind, {name: 5 for name in names}, self.fail_with, kind, names)

    def fail_with(self, kind, names):
        raise kind(*[5 for _ in names])


if __name__ == "__main__":
    unittest.main()
