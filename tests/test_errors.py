"""The refusals' classes (errors.py)."""

import unittest

from slotfitter.errors import FitError, NoBlock, NoLine, NoName, NoPlace, NoWay, SignTwice, TooMany

KINDS = [NoBlock, TooMany, NoName, SignTwice, NoWay, NoPlace, NoLine]


class ErrorsTest(unittest.TestCase):
    def test_any_refusal_is_a_value_error(self):
        self.assertTrue(issubclass(FitError, ValueError))

    def test_each_kind_is_a_fit_error(self):
        for kind in KINDS:
            self.assertTrue(issubclass(kind, FitError), kind)
            self.assertIsNot(kind, FitError)

    def test_no_kind_is_another_kind(self):
        for kind in KINDS:
            for other in KINDS:
                self.assertEqual(issubclass(kind, other), kind is other, (kind, other))


if __name__ == "__main__":
    unittest.main()
