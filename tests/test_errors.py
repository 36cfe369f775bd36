"""Point 8: the errors."""

import unittest

from plantrace import errors
from plantrace.errors import (
    BadBill, BadPlant, BoundedCurve, CannotRun, NoSuchUnit, NotConvergent, NothingToUndo,
    PlantError, TooLarge, TooMuch,
)

ALL = (BadPlant, BadBill, BoundedCurve, TooMuch, TooLarge, CannotRun, NoSuchUnit, NotConvergent, NothingToUndo)


class ErrorsTest(unittest.TestCase):
    def test_each_error_stands_directly_under_plant_error(self):
        self.assertEqual(PlantError.__bases__, (ValueError,))
        for kind in ALL:
            self.assertEqual(kind.__bases__, (PlantError,), kind)
            self.assertEqual(kind.__module__, "plantrace.errors")

    def test_there_are_no_other_errors(self):
        kinds = [kind for kind in vars(errors).values() if isinstance(kind, type)]
        self.assertEqual(set(kinds), set(ALL) | {PlantError})

    def test_attributes(self):
        self.assertEqual(BadPlant(3).buffer, 3)
        self.assertEqual(BadBill(2).item, 2)
        self.assertEqual(CannotRun(5).event, 5)
        self.assertEqual((NoSuchUnit(4, 7).buffer, NoSuchUnit(4, 7).unit), (4, 7))
        self.assertEqual(NotConvergent(1).stage, 1)

    def test_errors_without_attributes(self):
        for kind in (PlantError, BoundedCurve, TooMuch, TooLarge, NothingToUndo):
            with self.assertRaises(ValueError):
                raise kind("so it is")


if __name__ == "__main__":
    unittest.main()
