"""The interface: the classes of refusals, and the names and arguments of the rest."""

import importlib
import inspect
import unittest

from writeways import errors

BARE = ("BadHands", "BadHand", "BadPlace", "BadNumber", "BadRoom", "BadWays")
NUMBERED = ("BadRule", "BadDeed", "BadLeavings")
ROWED = ("BadText",)

FUNCTIONS = {
    "halls": ("Hall rules hands", "plain hands deeds", "told rules hands deeds", "passed rule asks"),
    "depths": ("depths blocks", "late_brings blocks"),
    "fewest": ("fewest blocks ways", "judged blocks ways leavings"),
    "least": ("least halls hands deeds",),
    "notes": ("written rules deeds", "read text"),
}
METHODS = (
    "look self hand place", "change self hand place number", "settle self", "far self", "near self level hand",
    "log self", "moves self",
)


class Classes(unittest.TestCase):
    def test_any_refusal_is_a_value_error(self):
        self.assertEqual(errors.WayError.__bases__, (ValueError,))

    def test_each_is_a_way_error_and_under_no_other(self):
        for name in BARE + NUMBERED + ROWED:
            with self.subTest(name=name):
                self.assertEqual(getattr(errors, name).__bases__, (errors.WayError,))

    def test_number_and_row_are_set_when_made(self):
        for name in NUMBERED:
            with self.subTest(name=name):
                self.assertEqual(getattr(errors, name)(7).number, 7)
        self.assertEqual(errors.BadText(5).row, 5)


class Names(unittest.TestCase):
    def has(self, holder, row):
        name, *arguments = row.split()
        self.assertIn(name, vars(holder))
        self.assertEqual(list(inspect.signature(vars(holder)[name]).parameters), arguments, name)

    def test_functions_stand_in_their_files(self):
        for file, rows in FUNCTIONS.items():
            for row in rows:
                with self.subTest(file=file, row=row):
                    self.has(importlib.import_module(f"writeways.{file}"), row)

    def test_methods_stand_in_the_class_itself(self):
        for row in METHODS:
            with self.subTest(row=row):
                self.has(importlib.import_module("writeways.halls").Hall, row)


if __name__ == "__main__":
    unittest.main()
