"""The refusals: the classes of clubroll/errors.py."""

import unittest

from clubroll.errors import NoRoll, RollError


class Classes(unittest.TestCase):
    def test_roll_error_is_a_value_error(self):
        self.assertEqual(RollError.__bases__, (ValueError,))

    def test_no_roll_is_a_roll_error(self):
        self.assertEqual(NoRoll.__bases__, (RollError,))

    def test_no_roll_is_taken_by_each_of_its_bases(self):
        for base in (NoRoll, RollError, ValueError):
            with self.subTest(base=base.__name__):
                with self.assertRaises(base):
                    raise NoRoll("no roll")

    def test_roll_error_is_not_taken_as_no_roll(self):
        self.assertNotIsInstance(RollError("refused"), NoRoll)


if __name__ == "__main__":
    unittest.main()
