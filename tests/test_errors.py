"""Point 3: the classes of errors."""

import unittest

from rowsahead import errors

NAMES = ("BadProblem", "BadSetup", "BadDelays", "NoSuchEvent", "NotPossible",
         "CheckpointUnderWay", "TooLate")


class Errors(unittest.TestCase):
    def test_base_is_under_value_error(self):
        self.assertTrue(issubclass(errors.AheadError, ValueError))
        self.assertIsNot(errors.AheadError, ValueError)

    def test_each_error_is_under_the_base(self):
        for name in NAMES:
            with self.subTest(name):
                error = getattr(errors, name)
                self.assertTrue(issubclass(error, errors.AheadError))
                self.assertIsNot(error, errors.AheadError)

    def test_no_error_is_another_one(self):
        for name in NAMES:
            for other in NAMES:
                with self.subTest(name, other=other):
                    under = issubclass(getattr(errors, name), getattr(errors, other))
                    self.assertEqual(under, name == other)

    def test_errors_are_raised_and_caught(self):
        for name in NAMES:
            with self.subTest(name):
                with self.assertRaises(errors.AheadError) as caught:
                    raise getattr(errors, name)("why")
                self.assertEqual(str(caught.exception), "why")


if __name__ == "__main__":
    unittest.main()
