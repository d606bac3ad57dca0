"""The refusals: that each is there, and what it stands straight under."""

import unittest

from midstride import errors

NAMES = ["BadWord", "BadBody", "BadBook", "BadChanges", "BadCall", "BadText", "BadName", "Unknown", "Over",
         "Underway", "TooMany"]


class Errors(unittest.TestCase):

    def test_stride_error_is_straight_under_value_error(self):
        self.assertEqual(errors.StrideError.__bases__, (ValueError,))

    def test_eleven_are_straight_under_stride_error(self):
        self.assertEqual(len(NAMES), 11)
        for name in NAMES:
            with self.subTest(name):
                self.assertEqual(getattr(errors, name).__bases__, (errors.StrideError,))

    def test_each_is_a_class_of_its_own_name(self):
        for name in NAMES + ["StrideError"]:
            with self.subTest(name):
                self.assertEqual(getattr(errors, name).__name__, name)

    def test_there_are_no_others(self):
        found = [name for name, thing in vars(errors).items() if isinstance(thing, type)]
        self.assertEqual(sorted(found), sorted(NAMES + ["StrideError"]))

    def test_each_is_raised_and_caught_as_a_stride_error(self):
        for name in NAMES:
            with self.subTest(name):
                with self.assertRaises(errors.StrideError):
                    raise getattr(errors, name)("why")


if __name__ == "__main__":
    unittest.main()
