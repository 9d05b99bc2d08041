"""The errors: how they stand under one another, and their fields."""

import unittest

from sidework import errors

PLAIN = ("HasLend", "NoRows", "NoDeed", "NoText", "NoRow", "NoStand")


class TestErrors(unittest.TestCase):
    def test_work_error_is_right_under_value_error(self):
        self.assertEqual(errors.WorkError.__bases__, (ValueError,))

    def test_each_is_right_under_work_error(self):
        for name in ("NoBook", "NoStep", *PLAIN):
            with self.subTest(name=name):
                self.assertEqual(getattr(errors, name).__bases__, (errors.WorkError,))

    def test_none_is_under_another_one(self):
        names = ("NoBook", "NoStep", *PLAIN)
        for one in names:
            for other in names:
                if one != other:
                    self.assertFalse(issubclass(getattr(errors, one), getattr(errors, other)))

    def test_fields(self):
        for word in ("shape", "names", "great"):
            self.assertEqual(errors.NoBook(word).fault, word)
        for number in (0, 1, 69):
            self.assertEqual(errors.NoStep(number).number, number)

    def test_they_are_raised_and_caught(self):
        for made in (errors.NoBook("shape"), errors.NoStep(0), *[getattr(errors, name)() for name in PLAIN]):
            with self.assertRaises(errors.WorkError):
                raise made


if __name__ == "__main__":
    unittest.main()
