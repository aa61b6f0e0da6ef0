"""The error classes of the interface."""

import unittest

from everyweave import errors

NAMES = ("BadProgram", "BadSchedule", "BadArgument", "BadText", "BadGraph", "TooLarge", "BadLine")


class ErrorClasses(unittest.TestCase):
    def test_the_base_is_directly_under_value_error(self):
        self.assertEqual(errors.EveryweaveError.__bases__, (ValueError,))

    def test_each_other_one_is_directly_under_the_base(self):
        for name in NAMES:
            with self.subTest(name):
                self.assertEqual(getattr(errors, name).__bases__, (errors.EveryweaveError,))

    def test_there_are_eight_of_them(self):
        classes = [value for value in vars(errors).values() if isinstance(value, type)]
        self.assertEqual(len(classes), 8)

    def test_they_carry_a_message(self):
        for name in NAMES:
            self.assertEqual(str(getattr(errors, name)("why")), "why")


if __name__ == "__main__":
    unittest.main()
