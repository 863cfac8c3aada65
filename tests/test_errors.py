import unittest

from drivefold import errors
from drivefold.errors import (
    BadJournal, BadPaper, BadProgram, BadTerm, BadWord, DriveFoldError, Refused, TooLarge, WrongPaper)


class ErrorTests(unittest.TestCase):
    def test_the_base_class_is_a_value_error(self):
        self.assertEqual(DriveFoldError.__bases__, (ValueError,))

    def test_all_others_derive_from_the_base_class(self):
        for error in (BadTerm, BadWord, BadPaper, TooLarge, BadProgram, BadJournal, Refused, WrongPaper):
            self.assertEqual(error.__bases__, (DriveFoldError,), error.__name__)
            self.assertEqual(error.__module__, errors.__name__)

    def test_errors_without_attributes(self):
        for error in (DriveFoldError, BadTerm, BadPaper, TooLarge):
            self.assertEqual(vars(error("told")), {}, error.__name__)
            with self.assertRaises(ValueError):
                raise error("told")

    def test_attributes_are_set_when_the_object_is_created(self):
        for error, attribute, worth in (
                (BadProgram, "line", 1), (BadProgram, "line", 200), (BadJournal, "line", 17),
                (Refused, "reason", "no node"), (Refused, "reason", "not open"),
                (WrongPaper, "row", 0), (WrongPaper, "row", 39)):
            self.assertEqual(vars(error(worth)), {attribute: worth}, error.__name__)
            with self.assertRaises(DriveFoldError) as caught:
                raise error(worth)
            self.assertEqual(getattr(caught.exception, attribute), worth)


if __name__ == "__main__":
    unittest.main()
