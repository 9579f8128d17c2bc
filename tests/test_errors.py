"""The interface: the classes of refusals."""

import unittest

from writeways import errors

BARE = ("BadHands", "BadHand", "BadPlace", "BadNumber", "BadRoom", "BadWays")
NUMBERED = ("BadRule", "BadDeed", "BadLeavings")
ROWED = ("BadText",)


class Classes(unittest.TestCase):
    def test_any_refusal_is_a_value_error(self):
        self.assertEqual(errors.WayError.__bases__, (ValueError,))

    def test_each_is_a_way_error_and_under_no_other(self):
        for name in BARE + NUMBERED + ROWED:
            with self.subTest(name=name):
                self.assertEqual(getattr(errors, name).__bases__, (errors.WayError,))

    def test_number_and_row_are_set_when_made(self):
        for name in NUMBERED:
            with self.subTest(name=name):
                self.assertEqual(getattr(errors, name)(7).number, 7)
        self.assertEqual(errors.BadText(5).row, 5)


if __name__ == "__main__":
    unittest.main()
