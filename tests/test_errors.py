"""The errors of the package."""

import unittest

from editionlag import errors

NAMES = (
    "BadSchedule", "BadLag", "BadEdition", "BadState", "BadDeed", "BadDeeds", "BadWish", "BadTable",
    "BadPrices", "BadLimit", "TooLarge", "BadOffers", "BadPair", "BadPlan", "NotRight", "BadRows",
    "BadIndex", "BadValue", "NotPublic", "NothingDone", "BadText", "BadWaits", "BadRepair",
)


class Errors(unittest.TestCase):
    def test_lag_error_is_a_direct_subclass_of_value_error(self):
        self.assertEqual(errors.LagError.__bases__, (ValueError,))
        self.assertEqual(errors.LagError.__module__, "editionlag.errors")

    def test_each_error_is_a_direct_subclass_of_lag_error(self):
        for name in NAMES:
            with self.subTest(name=name):
                found = getattr(errors, name)
                self.assertEqual(found.__bases__, (errors.LagError,))
                self.assertEqual(found.__module__, "editionlag.errors")

    def test_there_are_no_other_subclasses(self):
        told = sorted(found.__name__ for found in errors.LagError.__subclasses__())
        self.assertEqual(told, sorted(NAMES))

    def test_attributes(self):
        for part in (None, "width", "first", "steps"):
            self.assertEqual(errors.BadSchedule(part).part, part)
        for index in (None, 0, 7):
            self.assertEqual(errors.BadDeeds(index).index, index)
        self.assertEqual(errors.BadText(3).row, 3)


if __name__ == "__main__":
    unittest.main()
