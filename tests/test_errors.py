"""Points [7] and the head of the interface: the exceptions."""

import unittest

from processturns import errors

NAMES = ["BadProgram", "BadHall", "BadScheduler", "BadNumber", "BadRecord", "BadText", "NotFound"]


class ErrorsTest(unittest.TestCase):
    def test_turn_error_is_a_value_error(self):
        self.assertTrue(issubclass(errors.TurnError, ValueError))

    def test_each_is_a_direct_subclass(self):
        for name in NAMES:
            with self.subTest(name):
                self.assertEqual(getattr(errors, name).__bases__, (errors.TurnError,))

    def test_all_are_defined_in_errors(self):
        for name in NAMES + ["TurnError"]:
            with self.subTest(name):
                self.assertEqual(getattr(errors, name).__name__, name)
                self.assertEqual(getattr(errors, name).__module__, "processturns.errors")


if __name__ == "__main__":
    unittest.main()
