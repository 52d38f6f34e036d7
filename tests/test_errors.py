import unittest

from manyshaped import errors
from manyshaped.errors import ManyshapedError


class Errors(unittest.TestCase):

    def test_all_stand_right_below_the_one(self):
        self.assertEqual(ManyshapedError.__bases__, (ValueError,))
        for name in ("BadShape", "BadSystem", "BadState", "BadFormula", "BadMap", "TooMuch"):
            self.assertEqual(getattr(errors, name).__bases__, (ManyshapedError,))

    def test_made_without_arguments(self):
        for name in ("ManyshapedError", "BadShape", "BadSystem", "BadState", "BadFormula", "BadMap", "TooMuch"):
            self.assertEqual(getattr(errors, name)().args, ())


if __name__ == "__main__":
    unittest.main()
