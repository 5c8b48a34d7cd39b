"""Point 9, and point 1 over a whole day: leafsheet/day.py."""

import copy
import unittest

from leafsheet.day import answers

import sample_sheets as samples
from sample_sheets import BEYOND, HUNDRED, NOUGHT


def put(place, *formula):
    return ("put", place, formula)


def look(place):
    return ("look", place)


def expected_answers(size, deeds):
    """The answers that point 9 asks for, with every value worked out afresh."""
    sheet = [NOUGHT] * size
    found = []
    for deed in deeds:
        ahead = samples.expected_results(sheet)
        if not 0 <= deed[1] < size:
            found.append("no cell")
        elif deed[0] == "look":
            found.append(ahead[deed[1]])
        else:
            sheet[deed[1]] = deed[2]
            behind = samples.expected_results(sheet)
            found.append([place for place in range(size) if behind[place] != ahead[place]])
    return found


def drawn_deeds(drawer, size, count):
    deeds = []
    for step in range(count):
        place = drawer.of(samples.places_off(size)) if drawer.below(12) == 0 or size == 0 else drawer.below(size)
        if drawer.below(3) == 0:
            deeds.append(look(place))
        elif drawer.below(2) == 0:
            deeds.append(put(place, "number", drawer.below(7) - 3))
        else:
            deeds.append(("put", place, drawer.formula(size)))
    return deeds


class Answers(unittest.TestCase):
    def check(self, size, rows):
        """Each row: a deed, and its answer."""
        given = answers(size, [deed for deed, answer in rows])
        self.assertIs(type(given), list)
        self.assertEqual(given, [answer for deed, answer in rows])

    def test_no_deeds(self):
        for size in (0, 1, 5, 100):
            self.assertEqual(answers(size, []), [])

    def test_each_cell_begins_with_nought(self):
        for size in (1, 3, 100, 130):
            self.assertEqual(answers(size, [look(place) for place in range(size)]), [0] * size)

    def test_puts_and_looks_one_after_the_other(self):
        self.check(4, [
            (put(0, "number", 5), [0]),
            (look(0), 5),
            (put(1, "sum", 0, 0), [1]),
            (look(1), 10),
            (put(2, "less", 0, 1), [2]),
            (look(2), -5),
            (put(3, "most", 1, 2), [3]),
            (look(3), 10),
            (put(0, "number", -5), [0, 1, 2, 3]),
            (look(0), -5),
            (look(1), -10),
            (look(2), 5),
            (look(3), 5),
            (put(3, "pick", 2, 0, 1), [3]),
            (look(3), -5),
        ])

    def test_a_list_goes_from_the_least_place_to_the_greatest(self):
        # Each cell leans on the next, so the values are worked out from the greatest place to the least.
        rows = [(put(place, "sum", place + 1, -1), []) for place in range(12)]
        rows += [(put(12, "number", 1), list(range(13))), (put(6, "number", 2), list(range(7)))]
        self.check(13, rows)
        self.check(5, [
            (put(4, "sum", 2, 2), []),
            (put(0, "sum", 4, 4), []),
            (put(2, "number", 1), [0, 2, 4]),
        ])

    def test_an_empty_list_where_nothing_comes_to_another_value(self):
        self.check(3, [
            (put(0, "number", 0), []),
            (put(0, "sum", 1, 2), []),
            (put(0, "number", 6), [0]),
            (put(0, "number", 6), []),
            (put(1, "sum", 0, 9), [1]),
            (put(1, "most", 0, -1), []),
            (put(2, "number", -1), [2]),
            (put(2, "less", 5, 5), [2]),
            (put(2, "sum", -1, -1), []),
        ])

    def test_a_touched_cell_that_keeps_its_value_is_not_told(self):
        self.check(3, [
            (put(0, "number", 9), [0]),
            (put(2, "most", 0, 1), [2]),
            (put(1, "number", 4), [1]),
            (put(1, "number", 10), [1, 2]),
        ])

    def test_a_put_that_closes_a_ring_and_one_that_opens_it(self):
        self.check(4, [
            (put(0, "number", 2), [0]),
            (put(1, "sum", 0, 0), [1]),
            (put(2, "sum", 1, 1), [2]),
            (put(3, "number", 7), [3]),
            (put(0, "sum", 1, 3), [0, 1, 2]),
            (look(0), None),
            (look(1), None),
            (look(2), None),
            (look(3), 7),
            (put(3, "number", 8), [3]),
            (put(0, "number", 2), [0, 1, 2]),
            (look(0), 2),
            (look(1), 4),
            (look(2), 8),
            (look(3), 8),
        ])

    def test_from_nought_to_none_and_back(self):
        self.check(2, [
            (put(0, "sum", 0, 0), [0]),
            (look(0), None),
            (put(0, "less", 0, 1), []),
            (put(1, "sum", 0, 0), [1]),
            (look(1), None),
            (put(0, "number", 0), [0, 1]),
            (look(0), 0),
            (look(1), 0),
        ])

    def test_out_of_one_ring_and_into_another(self):
        self.check(4, [
            (put(1, "sum", 0, 0), []),
            (put(0, "sum", 1, 1), [0, 1]),
            (put(2, "sum", 0, 3), [2]),
            (put(0, "sum", 2, 2), []),
            (put(0, "number", 1), [0, 1, 2]),
            (put(0, "sum", 2, 2), [0, 1, 2]),
            (put(2, "number", 5), [0, 1, 2]),
            (look(1), 20),
        ])

    def test_a_ring_through_a_place_that_is_not_picked(self):
        self.check(3, [
            (put(0, "number", 1), [0]),
            (put(1, "pick", 0, 0, 1), [1]),
            (look(1), None),
            (put(1, "pick", 0, 0, 2), [1]),
            (look(1), 1),
            (put(2, "sum", 2, 2), [1, 2]),
            (look(1), None),
        ])

    def test_a_deed_off_the_sheet_is_no_cell(self):
        for size in (0, 1, 2, 5, 100):
            for place in samples.places_off(size):
                with self.subTest(size=size, place=place):
                    self.check(size, [(put(place, "number", 1), "no cell"), (look(place), "no cell")])

    def test_places_from_the_end_are_no_cells(self):
        self.check(3, [(put(place, "number", 1), "no cell") for place in (-1, -2, -3)]
                   + [(look(place), "no cell") for place in (-1, -2, -3)]
                   + [(look(place), 0) for place in (0, 1, 2)])

    def test_behind_a_deed_off_the_sheet_everything_is_as_it_was(self):
        begin = [put(0, "number", 3), put(1, "sum", 0, 0), put(2, "sum", 2, 1)]
        for place in samples.places_off(4):
            rows = list(zip(begin, ([0], [1], [2])))
            refused = [put(place, "sum", 0, 1), look(place), put(place, "number", 9)]
            rows += [(deed, "no cell") for deed in refused]
            rows += list(zip([look(cell) for cell in range(4)], (3, 6, None, 0)))
            rows += [(put(3, "sum", place, 0), [3]), (look(3), 3), (put(0, "number", 4), [0, 1, 3])]
            with self.subTest(place=place):
                self.check(4, rows)

    def test_the_cells_at_either_end_are_on_the_sheet(self):
        self.check(3, [
            (put(2, "number", 1), [2]),
            (put(0, "number", 1), [0]),
            (put(3, "number", 1), "no cell"),
            (put(-1, "number", 1), "no cell"),
            (look(2), 1),
            (look(0), 1),
        ])

    def test_a_size_of_nought(self):
        self.check(0, [
            (look(0), "no cell"),
            (put(0, "number", 1), "no cell"),
            (look(0), "no cell"),
            (look(-1), "no cell"),
            (put(1, "sum", 0, 0), "no cell"),
        ])

    def test_places_off_the_sheet_in_a_formula_are_nought(self):
        self.check(2, [
            (put(1, "number", 5), [1]),
            (put(0, "sum", -1, 2), []),
            (put(0, "less", HUNDRED, 1), [0]),
            (look(0), -5),
            (put(0, "pick", -BEYOND, 1, BEYOND), [0]),
            (look(0), 0),
        ])

    def test_numbers_of_a_hundred_figures(self):
        self.check(3, [
            (put(0, "number", HUNDRED), [0]),
            (put(1, "less", 2, 0), [1]),
            (look(1), -HUNDRED),
            (put(2, "number", BEYOND), [1, 2]),
            (look(1), BEYOND - HUNDRED),
            (put(0, "number", -HUNDRED), [0, 1]),
            (look(1), BEYOND + HUNDRED),
        ])

    def test_two_days_keep_apart(self):
        deeds = [put(0, "number", 4), look(0), look(1)]
        self.assertEqual(answers(2, deeds), [[0], 4, 0])
        self.assertEqual(answers(2, deeds), [[0], 4, 0])
        self.assertEqual(answers(2, [look(0)]), [0])

    def test_each_answer_is_a_list_of_its_own(self):
        given = answers(2, [put(0, "number", 1), put(0, "number", 2), put(1, "number", 0), put(1, "number", 0)])
        given[0].append(99)
        given[2].append(99)
        self.assertEqual(given, [[0, 99], [0], [99], []])

    def test_many_days(self):
        drawer = samples.Drawer(37)
        for size in list(range(8)) * 12:
            deeds = drawn_deeds(drawer, size, 25)
            self.assertEqual(answers(size, deeds), expected_answers(size, deeds), (size, deeds))

    def test_a_thousand_deeds(self):
        drawer = samples.Drawer(41)
        for size, count in ((10, 1000), (30, 1100)):
            deeds = drawn_deeds(drawer, size, count)
            given = answers(size, deeds)
            self.assertEqual(len(given), count)
            self.assertEqual(given, expected_answers(size, deeds))

    def test_a_thousand_deeds_on_a_hundred_cells(self):
        rows = [(put(place, "sum", place + 1, place + 1), []) for place in range(99)]
        for step in range(1, 451):
            rows += [(put(99, "number", step), list(range(100))), (look(0), step * 2 ** 99)]
        rows += [(look(100), "no cell")]
        self.check(100, rows)


class NothingHandedInIsChanged(unittest.TestCase):
    def test_deeds_stay_as_they_were(self):
        drawer = samples.Drawer(53)
        for size in (0, 1, 5, 12):
            deeds = drawn_deeds(drawer, size, 60)
            kept = copy.deepcopy(deeds)
            answers(size, deeds)
            self.assertEqual(deeds, kept)

    def test_refused_deeds_stay_as_they_were(self):
        deeds = [put(-1, "number", 1), look(2), put(2, "sum", 0, 1)]
        kept = copy.deepcopy(deeds)
        answers(2, deeds)
        self.assertEqual(deeds, kept)


if __name__ == "__main__":
    unittest.main()
