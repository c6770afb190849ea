"""The refusals of turnedrun.errors."""

import unittest

from turnedrun import errors
from turnedrun.errors import BadLine, BadName, BadNumber, BadProgram, BadRow, OwnBox, TooDeep, UndoError

SEVEN = (BadProgram, BadRow, BadName, BadNumber, OwnBox, TooDeep, BadLine)
PLACES = (None, ("main", 0), ("main", 3, 1, 0), 7)


class ErrorsTest(unittest.TestCase):
    def test_undo_error_stands_right_under_value_error(self):
        self.assertEqual(UndoError.__bases__, (ValueError,))

    def test_each_of_the_seven_stands_right_under_undo_error(self):
        for kind in SEVEN:
            with self.subTest(kind=kind.__name__):
                self.assertEqual(kind.__bases__, (UndoError,))

    def test_none_of_the_seven_stands_under_another_one(self):
        self.assertEqual(len(set(SEVEN)), 7)
        for kind in SEVEN:
            for other in SEVEN:
                with self.subTest(kind=kind.__name__, other=other.__name__):
                    self.assertEqual(issubclass(kind, other), kind is other)

    def test_each_one_has_its_own_name_and_is_defined_in_the_file(self):
        names = ("UndoError", "BadProgram", "BadRow", "BadName", "BadNumber", "OwnBox", "TooDeep", "BadLine")
        for name in names:
            with self.subTest(name=name):
                kind = getattr(errors, name)
                self.assertEqual(kind.__name__, name)
                self.assertEqual(kind.__module__, "turnedrun.errors")

    def test_the_place_is_kept_as_at(self):
        for kind in (UndoError, *SEVEN):
            for place in PLACES:
                with self.subTest(kind=kind.__name__, place=place):
                    self.assertEqual(kind(place).at, place)

    def test_two_errors_keep_their_own_places(self):
        first = BadRow(("main", 0))
        second = BadRow(("main", 1))
        self.assertEqual(first.at, ("main", 0))
        self.assertEqual(second.at, ("main", 1))

    def test_each_one_is_caught_as_undo_error_with_its_place(self):
        for kind in SEVEN:
            with self.subTest(kind=kind.__name__):
                with self.assertRaises(UndoError) as caught:
                    raise kind(("main", 2))
                self.assertIs(type(caught.exception), kind)
                self.assertEqual(caught.exception.at, ("main", 2))


if __name__ == "__main__":
    unittest.main()
