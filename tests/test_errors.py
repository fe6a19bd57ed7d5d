"""Tests of sureplans.errors [3]."""

import unittest

from sureplans import errors

NAMES = ["NoHouse", "NoDeed", "NoWorld", "NoNeed", "NoPaper", "TooMany", "NoLook", "NoPlan",
         "NoText", "NoForm", "NoneYet"]


class TestErrors(unittest.TestCase):

    def test_plan_error_stands_straight_under_value_error(self):
        self.assertEqual(errors.PlanError.__bases__, (ValueError,))

    def test_each_refusal_stands_straight_under_plan_error(self):
        for name in NAMES:
            with self.subTest(name):
                self.assertEqual(getattr(errors, name).__bases__, (errors.PlanError,))

    def test_no_refusal_stands_under_another_one(self):
        for name in NAMES:
            for other in NAMES:
                with self.subTest(name, other=other):
                    under = issubclass(getattr(errors, name), getattr(errors, other))
                    self.assertEqual(under, name == other)

    def test_there_are_no_other_classes(self):
        classes = [name for name, value in vars(errors).items() if isinstance(value, type)]
        self.assertEqual(sorted(classes), sorted(NAMES + ["PlanError"]))

    def test_a_refusal_is_caught_as_a_value_error(self):
        for name in NAMES:
            with self.subTest(name), self.assertRaises(ValueError):
                raise getattr(errors, name)("why")


if __name__ == "__main__":
    unittest.main()
