import unittest

from kindleweb import errors
from tests.samples import REFUSALS


class Refusals(unittest.TestCase):
    def test_each_stands_straight_under_hearth_error(self):
        for name in REFUSALS:
            self.assertEqual(getattr(errors, name).__bases__, (errors.HearthError,), name)

    def test_hearth_error_stands_under_value_error(self):
        self.assertEqual(errors.HearthError.__bases__, (ValueError,))

    def test_none_stands_under_another(self):
        for name in REFUSALS:
            for other in REFUSALS:
                one = getattr(errors, name)
                self.assertEqual(issubclass(one, getattr(errors, other)), name == other)

    def test_each_can_be_raised_and_taken_as_hearth_error(self):
        for name in REFUSALS:
            with self.assertRaises(errors.HearthError):
                raise getattr(errors, name)("words")


if __name__ == "__main__":
    unittest.main()
