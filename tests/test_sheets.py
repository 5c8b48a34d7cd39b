"""Points 1, 2, 5 and 8: leafsheet/sheets.py."""

import copy
import unittest

from leafsheet.errors import NoCell, SheetError
from leafsheet.leaning import touched
from leafsheet.sheets import changed, results

import sample_sheets as samples
from sample_sheets import BEYOND, FIVE_WORDS, HUNDRED, NOUGHT, TWO_RINGS


class Results(unittest.TestCase):
    def check(self, sheet, expected):
        answer = results(sheet)
        self.assertIs(type(answer), list)
        self.assertEqual(answer, expected, sheet)
        for value in answer:
            self.assertTrue(value is None or type(value) is int, sheet)

    def test_an_empty_sheet(self):
        self.check([], [])

    def test_numbers(self):
        self.check([("number", 4), NOUGHT, ("number", -4)], [4, 0, -4])

    def test_each_of_the_five_words(self):
        self.check(FIVE_WORDS, [13, -4, 9, 9, 9, 22])
        self.check([("number", 5), ("number", -3), ("sum", 0, 1), ("sum", 0, 0)], [5, -3, 2, 10])
        self.check([("number", 5), ("number", -3), ("less", 0, 1), ("less", 1, 0), ("less", 1, 1)], [5, -3, 8, -8, 0])
        self.check([("number", 5), ("number", -3), ("most", 0, 1), ("most", 1, 0), ("most", 1, 1)], [5, -3, 5, 5, -3])

    def test_pick_turns_above_nought(self):
        for first, value in ((HUNDRED, 20), (2, 20), (1, 20), (0, 30), (-1, 30), (-HUNDRED, 30)):
            self.check([("pick", 1, 2, 3), ("number", first), ("number", 20), ("number", 30)], [value, first, 20, 30])

    def test_a_place_that_stands_twice_is_counted_twice(self):
        self.check([("sum", 1, 1), ("number", 6)], [12, 6])
        self.check([("pick", 1, 1, 1), ("number", -6)], [-6, -6])

    def test_places_off_the_sheet_are_nought(self):
        for place in samples.places_off(8):
            self.check(
                [("number", 5), ("number", -5), ("sum", 0, place), ("less", place, 0), ("most", 1, place),
                 ("pick", place, 0, 1), ("pick", 0, place, 1), ("pick", 1, 0, place)],
                [5, -5, 5, -5, 0, -5, 0, 0],
            )

    def test_the_place_below_nought_is_not_the_last_cell(self):
        self.check([("sum", -1, -1), ("number", 8)], [0, 8])
        self.check([("sum", -2, 2), ("number", 8)], [0, 8])

    def test_a_formula_that_names_its_own_cell_has_none(self):
        formulas = [("sum", 0, 0), ("sum", 0, 1), ("less", 0, 0), ("less", 1, 0), ("most", 0, 0), ("pick", 0, 1, 1)]
        for formula in formulas:
            self.check([formula, ("number", 2)], [None, 2])

    def test_cells_of_rings_and_cells_that_come_to_one_have_none(self):
        self.check(TWO_RINGS, [7, None, None, None, None, 7, None, None, 0])
        self.check(samples.one_ring(100), [None] * 100)
        self.check(samples.forward_row(100)[:-1] + [("sum", 99, 99)], [None] * 100)

    def test_a_cell_that_a_ring_leans_on_has_a_value(self):
        self.check([("sum", 1, 2), ("sum", 0, 2), ("number", 6)], [None, None, 6])

    def test_a_ring_through_a_place_that_is_not_picked(self):
        self.check([("pick", 1, 2, 0), ("number", 1), ("number", 4)], [None, 1, 4])
        self.check([("pick", 1, 0, 2), ("number", 0), ("number", 4)], [None, 0, 4])
        self.check([("pick", 1, 2, 3), ("number", 1), ("number", 4), ("sum", 0, 1)], [None, 1, 4, None])

    def test_a_pick_that_comes_to_a_ring_where_it_does_not_pick(self):
        self.check([("pick", 1, 2, 3), ("number", 1), ("number", 4), ("sum", 3, 3)], [None, 1, 4, None])
        self.check([("pick", 1, 3, 2), ("number", 0), ("number", 4), ("sum", 3, 3)], [None, 0, 4, None])

    def test_a_hundred_cells_that_each_lean_on_the_next(self):
        self.check(samples.forward_row(100), [3] * 100)
        self.check(samples.backward_row(100), [3] * 100)
        self.check(samples.forward_row(150), [3] * 150)

    def test_a_hundred_doublings(self):
        sheet = [("sum", place + 1, place + 1) for place in range(99)] + [("number", -HUNDRED)]
        self.check(sheet, [-HUNDRED * 2 ** (99 - place) for place in range(100)])

    def test_numbers_of_a_hundred_figures(self):
        self.check(
            [("number", HUNDRED), ("number", -HUNDRED), ("sum", 0, 0), ("sum", 0, 1), ("less", 1, 0), ("most", 1, 0),
             ("pick", 1, 1, 0), ("number", BEYOND), ("less", 0, 7)],
            [HUNDRED, -HUNDRED, 2 * HUNDRED, 0, -2 * HUNDRED, HUNDRED, HUNDRED, BEYOND, HUNDRED - BEYOND],
        )

    def test_many_sheets(self):
        for sheet in samples.many_sheets():
            self.check(sheet, samples.expected_results(sheet))

    def test_each_answer_is_a_list_of_its_own(self):
        first = results(FIVE_WORDS)
        first[0] = 99
        self.assertEqual(results(FIVE_WORDS)[0], 13)


class Changed(unittest.TestCase):
    def test_the_formula_is_in_the_cell_and_the_others_stay(self):
        for place in range(len(FIVE_WORDS)):
            sheet = list(FIVE_WORDS)
            answer = changed(sheet, place, ("sum", 1, 9))
            self.assertIs(type(answer), list)
            self.assertEqual(answer[place], ("sum", 1, 9))
            self.assertEqual(answer[:place] + answer[place + 1:], FIVE_WORDS[:place] + FIVE_WORDS[place + 1:])
            self.assertEqual(sheet, FIVE_WORDS)
            self.assertIsNot(answer, sheet)

    def test_each_word_may_be_put(self):
        for formula in FIVE_WORDS + [("number", HUNDRED), ("sum", -BEYOND, BEYOND)]:
            self.assertEqual(changed([NOUGHT, NOUGHT], 1, formula), [NOUGHT, formula])

    def test_a_new_list_where_the_formula_is_the_same(self):
        sheet = [("number", 3), ("sum", 0, 0)]
        answer = changed(sheet, 1, ("sum", 0, 0))
        self.assertEqual(answer, sheet)
        answer.append(NOUGHT)
        answer[0] = NOUGHT
        self.assertEqual(sheet, [("number", 3), ("sum", 0, 0)])

    def test_the_one_cell_of_a_sheet(self):
        self.assertEqual(changed([NOUGHT], 0, ("sum", 0, 0)), [("sum", 0, 0)])

    def test_cells_with_the_same_formula_are_still_apart(self):
        self.assertEqual(changed([NOUGHT] * 3, 1, ("number", 5)), [NOUGHT, ("number", 5), NOUGHT])

    def test_a_place_off_the_sheet_is_refused(self):
        for sheet in ([], [NOUGHT], FIVE_WORDS, TWO_RINGS, samples.forward_row(100)):
            kept = copy.deepcopy(sheet)
            for place in samples.places_off(len(sheet)) + (-len(sheet) or -1,):
                for name in (NoCell, SheetError, ValueError):
                    with self.subTest(size=len(sheet), place=place, name=name), self.assertRaises(name) as taken:
                        changed(sheet, place, ("number", 1))
                    self.assertIs(type(taken.exception), NoCell)
            self.assertEqual(sheet, kept)

    def test_only_touched_cells_come_to_something_else(self):
        drawer = samples.Drawer(23)
        for sheet in samples.many_sheets():
            if not sheet:
                continue
            place = drawer.below(len(sheet))
            formula = drawer.formula(len(sheet))
            ahead = results(sheet)
            behind = results(changed(sheet, place, formula))
            self.assertEqual(behind, samples.expected_results(sheet[:place] + [formula] + sheet[place + 1:]))
            told = touched(sheet, place)
            for other in range(len(sheet)):
                if other not in told:
                    self.assertEqual(behind[other], ahead[other], (sheet, place, formula))


class NothingHandedInIsChanged(unittest.TestCase):
    def test_sheets_stay_as_they_were(self):
        for sheet in samples.named_sheets():
            kept = copy.deepcopy(sheet)
            results(sheet)
            for place in range(len(sheet)):
                changed(sheet, place, ("number", 8))
            self.assertEqual(sheet, kept)


if __name__ == "__main__":
    unittest.main()
