"""The interface of leafsheet/errors.py: what can be raised, and by which names it is taken."""

import unittest

from leafsheet.errors import NoCell, SheetError


class Errors(unittest.TestCase):
    def test_sheet_error_is_a_value_error(self):
        self.assertTrue(issubclass(SheetError, ValueError))

    def test_no_cell_is_a_sheet_error(self):
        self.assertTrue(issubclass(NoCell, SheetError))

    def test_the_two_are_not_one(self):
        self.assertFalse(issubclass(SheetError, NoCell))

    def test_no_cell_is_taken_by_each_of_its_names(self):
        for name in (NoCell, SheetError, ValueError):
            with self.subTest(name=name), self.assertRaises(name):
                raise NoCell("place 7")

    def test_sheet_error_is_taken_by_its_names(self):
        for name in (SheetError, ValueError):
            with self.subTest(name=name), self.assertRaises(name):
                raise SheetError("refused")

    def test_sheet_error_is_not_taken_as_no_cell(self):
        try:
            raise SheetError("refused")
        except NoCell:
            self.fail("a SheetError was taken as NoCell")
        except SheetError as error:
            self.assertEqual(str(error), "refused")

    def test_both_can_be_raised_without_words(self):
        for name in (NoCell, SheetError):
            with self.subTest(name=name), self.assertRaises(name):
                raise name()


if __name__ == "__main__":
    unittest.main()
