"""[2], [4]: the error classes."""

import inspect
import unittest

from tailswap import errors

NAMES = [
    "NoFrame", "NoBoard", "NoRow", "NoEffect", "NoTimes", "NoJoints", "NoCuts", "NoAt", "NotShort", "NoGoal",
    "NoPrices", "NoWishes", "NoCut", "NoRibbon", "NoPlace", "NothingDone", "NoText", "NoLine",
]


class ErrorsTest(unittest.TestCase):
    def test_tail_error_is_a_value_error(self):
        self.assertEqual(errors.TailError.__bases__, (ValueError,))

    def test_each_error_is_straight_under_tail_error(self):
        for name in NAMES:
            with self.subTest(name):
                self.assertEqual(getattr(errors, name).__bases__, (errors.TailError,))

    def test_each_error_is_defined_in_errors_under_its_name(self):
        for name in [*NAMES, "TailError"]:
            with self.subTest(name):
                self.assertEqual(getattr(errors, name).__module__, "tailswap.errors")
                self.assertEqual(getattr(errors, name).__name__, name)

    def test_there_are_no_other_errors(self):
        found = [name for name, thing in vars(errors).items() if inspect.isclass(thing)]
        self.assertEqual(sorted(found), sorted([*NAMES, "TailError"]))

    def test_each_error_is_made_without_anything(self):
        for name in NAMES:
            with self.subTest(name):
                made = getattr(errors, name)()
                self.assertIsInstance(made, errors.TailError)
                self.assertIsInstance(made, ValueError)

    def test_each_error_is_caught_as_itself_alone(self):
        for name in NAMES:
            for other in NAMES:
                with self.subTest(name=name, other=other):
                    self.assertEqual(isinstance(getattr(errors, name)(), getattr(errors, other)), name == other)


if __name__ == "__main__":
    unittest.main()
