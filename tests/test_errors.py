"""The refusals, as the interface lists them."""

import unittest

from reelrows import errors

NAMES = [
    "BadNumber", "BadName", "BadReel", "NoRing", "AtEnd", "AtStart", "TooLong",
    "BadForm", "BadRecord", "BadBlock", "BadLabel", "NoReel", "NoFile", "Kept",
]


class TestErrors(unittest.TestCase):
    def test_all_stand_under_one_and_that_under_value_error(self):
        self.assertTrue(issubclass(errors.ReelError, ValueError))
        for name in NAMES:
            with self.subTest(name):
                self.assertTrue(issubclass(getattr(errors, name), errors.ReelError))

    def test_none_stands_under_another_one(self):
        for name in NAMES:
            for other in NAMES:
                if name != other:
                    with self.subTest(name=name, other=other):
                        self.assertFalse(issubclass(getattr(errors, name), getattr(errors, other)))

    def test_reel_error_is_none_of_them(self):
        for name in NAMES:
            self.assertFalse(issubclass(errors.ReelError, getattr(errors, name)))

    def test_there_are_no_others(self):
        found = [name for name, thing in vars(errors).items() if isinstance(thing, type)]
        self.assertEqual(sorted(found), sorted(NAMES + ["ReelError"]))

    def test_number_is_a_field(self):
        for refusal in (errors.NoFile, errors.Kept):
            for number in (0, 1, 99, -3, True, None, "x", [1], 10 ** 5000):
                with self.subTest(refusal.__name__):
                    made = refusal(number)
                    self.assertEqual(made.number, number)
                    self.assertIs(type(made.number), type(number))
                    self.assertIsInstance(str(made), str)

    def test_number_is_there_when_caught(self):
        for refusal in (errors.NoFile, errors.Kept):
            with self.assertRaises(ValueError) as caught:
                raise refusal(7)
            self.assertIs(type(caught.exception), refusal)
            self.assertEqual(caught.exception.number, 7)


if __name__ == "__main__":
    unittest.main()
