"""The errors of the interface."""

import unittest

from blindplan import errors

NAMES = ["BadHouse", "BadGuess", "BadDeed", "BadPlan", "BadSteps", "NoWay", "BadText"]


class ErrorsTest(unittest.TestCase):
    def test_house_error_stands_under_value_error(self):
        self.assertEqual(errors.HouseError.__bases__, (ValueError,))
        self.assertEqual(errors.HouseError.__module__, "blindplan.errors")
        self.assertEqual(errors.HouseError.__name__, "HouseError")

    def test_each_of_the_seven_stands_under_house_error(self):
        for name in NAMES:
            with self.subTest(name):
                kind = getattr(errors, name)
                self.assertTrue(issubclass(kind, errors.HouseError))
                self.assertIsNot(kind, errors.HouseError)
                self.assertEqual(kind.__module__, "blindplan.errors")
                self.assertEqual(kind.__name__, name)

    def test_none_of_the_seven_stands_under_another(self):
        kinds = [getattr(errors, name) for name in NAMES]
        for kind in kinds:
            for other in kinds:
                self.assertEqual(issubclass(kind, other), kind is other)

    def test_each_is_caught_as_a_house_error_and_as_a_value_error(self):
        for name in NAMES:
            for wider in (errors.HouseError, ValueError):
                with self.subTest(name), self.assertRaises(wider):
                    raise getattr(errors, name)("why")


if __name__ == "__main__":
    unittest.main()
