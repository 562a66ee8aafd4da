"""The interface, precread/errors.py."""

import unittest

from precread import errors
from tests.helper import REFUSALS


class Errors(unittest.TestCase):

    def test_any_refusal_is_a_value_error(self):
        self.assertEqual(errors.ReadError.__bases__, (ValueError,))

    def test_each_refusal_stands_under_read_error(self):
        for refusal in REFUSALS:
            self.assertTrue(issubclass(refusal, errors.ReadError), refusal)

    def test_none_stands_under_another_one(self):
        self.assertEqual(len(set(REFUSALS)), 6)
        for one in REFUSALS:
            under = [other for other in REFUSALS if issubclass(one, other)]
            self.assertEqual(under, [one])

    def test_read_error_stands_under_none_of_them(self):
        for refusal in REFUSALS:
            self.assertFalse(issubclass(errors.ReadError, refusal), refusal)

    def test_the_names_are_those_of_the_classes(self):
        names = ["NoWord", "NoTelling", "Clash", "NoPart", "NoTree", "TooMuch"]
        self.assertEqual([refusal.__name__ for refusal in REFUSALS], names)

    def test_each_can_be_raised_with_a_wording(self):
        for refusal in REFUSALS:
            with self.assertRaises(errors.ReadError) as caught:
                raise refusal("why")
            self.assertEqual(str(caught.exception), "why")


if __name__ == "__main__":
    unittest.main()
