"""Points 3, 4, 6 and 7: leafsheet/leaning.py."""

import copy
import unittest

from leafsheet.errors import NoCell, SheetError
from leafsheet.leaning import order, ring, touched

import sample_sheets as samples
from sample_sheets import BEYOND, FIVE_WORDS, HUNDRED, NOUGHT, TWO_RINGS


class Order(unittest.TestCase):
    def check(self, sheet):
        answer = order(sheet)
        self.assertIs(type(answer), list)
        self.assertEqual(sorted(answer), samples.places_with_value(sheet), sheet)
        ahead = set()
        for place in answer:
            self.assertLessEqual(samples.leaned(sheet, place), ahead, sheet)
            ahead.add(place)
        return answer

    def test_an_empty_sheet(self):
        self.assertEqual(order([]), [])

    def test_one_cell(self):
        self.assertEqual(order([("number", 5)]), [0])
        self.assertEqual(order([("sum", 1, -1)]), [0])
        self.assertEqual(order([("sum", 0, -1)]), [])

    def test_a_row_that_leans_forwards(self):
        self.assertEqual(order(samples.forward_row(4)), [3, 2, 1, 0])

    def test_a_row_that_leans_backwards(self):
        self.assertEqual(order(samples.backward_row(4)), [0, 1, 2, 3])

    def test_a_row_that_leans_both_ways(self):
        sheet = [("sum", 3, 3), ("less", 0, 4), NOUGHT, ("most", 2, 4), ("pick", 2, 2, 2)]
        self.assertEqual(order(sheet), [2, 4, 3, 0, 1])
        self.check(FIVE_WORDS)

    def test_a_hundred_cells_that_each_lean_on_the_next(self):
        self.assertEqual(order(samples.forward_row(100)), list(range(99, -1, -1)))
        self.assertEqual(order(samples.backward_row(100)), list(range(100)))

    def test_somewhat_beyond_a_hundred_cells(self):
        self.assertEqual(order(samples.forward_row(150)), list(range(149, -1, -1)))
        self.assertEqual(len(self.check([("sum", -1, 300)] * 300)), 300)

    def test_cells_of_rings_and_cells_that_come_to_one_are_left_out(self):
        self.assertEqual(self.check(TWO_RINGS)[0], 0)
        self.assertEqual(sorted(order(TWO_RINGS)), [0, 5, 8])
        self.assertEqual(order(samples.one_ring(100)), [])

    def test_a_pick_waits_for_what_it_does_not_pick(self):
        for picked in (1, -1):
            sheet = [("pick", 3, 1, 2), NOUGHT, NOUGHT, ("number", picked)]
            self.assertEqual(self.check(sheet)[-1], 0)
            self.assertEqual(order([("pick", 1, 0, 2), ("number", picked), NOUGHT]), [1, 2])
            self.assertEqual(order([("pick", 1, 2, 0), ("number", picked), NOUGHT]), [1, 2])

    def test_a_cell_that_one_leans_on_twice(self):
        self.assertEqual(order([("sum", 1, 1), NOUGHT]), [1, 0])
        self.assertEqual(order([("pick", 1, 1, 1), NOUGHT]), [1, 0])

    def test_a_number_that_looks_like_a_place_leans_on_nothing(self):
        self.assertEqual(sorted(order([("number", 0), ("number", 1), ("number", 0)])), [0, 1, 2])

    def test_places_off_the_sheet_hold_nothing_up(self):
        for place in samples.places_off(3):
            sheet = [("sum", 1, place), ("pick", place, 2, place), ("less", place, place)]
            self.assertEqual(order(sheet), [2, 1, 0])

    def test_many_sheets(self):
        for sheet in samples.many_sheets():
            self.check(sheet)


class Ring(unittest.TestCase):
    def check(self, sheet):
        answer = ring(sheet)
        if not samples.places_without_value(sheet):
            self.assertIsNone(answer, sheet)
            return answer
        self.assertIs(type(answer), list)
        self.assertGreaterEqual(len(answer), 1, sheet)
        self.assertEqual(len(set(answer)), len(answer), sheet)
        self.assertLessEqual(set(answer), set(range(len(sheet))), sheet)
        for place, onward in zip(answer, answer[1:] + answer[:1]):
            self.assertIn(onward, samples.leaned(sheet, place), sheet)
        return answer

    def test_none_where_there_is_none(self):
        self.assertIsNone(ring([]))
        self.assertIsNone(ring([NOUGHT]))
        self.assertIsNone(ring(FIVE_WORDS))
        self.assertIsNone(ring(samples.forward_row(100)))
        self.assertIsNone(ring(samples.backward_row(100)))

    def test_cells_that_share_what_they_lean_on_make_no_ring(self):
        self.assertIsNone(ring([("sum", 1, 2), ("sum", 3, 3), ("sum", 3, 1), NOUGHT]))

    def test_a_cell_that_leans_on_itself(self):
        for formula in (("sum", 0, 0), ("less", 0, 1), ("most", -1, 0), ("pick", 0, 1, 1), ("pick", 1, 0, 1),
                        ("pick", 1, 1, 0)):
            with self.subTest(formula=formula):
                self.assertEqual(ring([formula, NOUGHT]), [0])
        self.assertEqual(ring([("number", 0)] * 5 + [("sum", 0, 5)]), [5])

    def test_a_ring_of_two(self):
        self.assertIn(ring([("sum", 1, 1), ("less", 0, 0)]), ([0, 1], [1, 0]))

    def test_each_leans_on_the_next_and_not_the_other_way(self):
        # Here 0 leans on 2, 2 on 1, and 1 on 0.
        self.assertIn(ring([("sum", 2, -1), ("sum", 0, -1), ("sum", 1, -1)]), ([0, 2, 1], [2, 1, 0], [1, 0, 2]))

    def test_a_ring_that_only_a_part_of_the_cells_come_to(self):
        # From 0 by 1 to the ring of 2 and 3; 4 comes to none, and 5 is leant on by the ring.
        sheet = [("sum", 1, 4), ("sum", 5, 2), ("sum", 3, 5), ("sum", 2, 5), ("sum", 5, 5), NOUGHT]
        self.assertIn(ring(sheet), ([2, 3], [3, 2]))

    def test_a_ring_of_a_hundred_cells(self):
        for size in (100, 130):
            answer = self.check(samples.one_ring(size))
            self.assertEqual(len(answer), size)
            self.assertEqual(answer, [(answer[0] + step) % size for step in range(size)])

    def test_several_rings(self):
        self.assertIn(self.check(TWO_RINGS), ([1, 2], [2, 1], [6]))
        self.assertIn(self.check([("sum", 0, 1), ("sum", 1, 2), ("sum", 2, 0)]), ([0], [1], [2], [0, 1, 2], [1, 2, 0],
                                                                               [2, 0, 1]))

    def test_a_ring_through_a_place_that_is_not_picked(self):
        self.assertIn(ring([("pick", 2, 2, 1), ("sum", 0, 2), ("number", 1)]), ([0, 1], [1, 0]))
        self.assertIn(ring([("pick", 2, 1, 2), ("sum", 0, 2), ("number", 0)]), ([0, 1], [1, 0]))

    def test_a_place_off_the_sheet_makes_no_ring(self):
        for place in samples.places_off(2):
            self.assertIsNone(ring([("sum", place, place), ("pick", place, 0, place)]))
        self.assertIsNone(ring([("sum", -1, -1)]))
        self.assertIsNone(ring([("sum", -2, -1), ("sum", -1, -2)]))
        self.assertIsNone(ring([("sum", 2, 2), ("sum", 2, 3)]))

    def test_many_sheets(self):
        for sheet in samples.many_sheets():
            self.check(sheet)


class Touched(unittest.TestCase):
    def check(self, sheet, place):
        answer = touched(sheet, place)
        self.assertIs(type(answer), list)
        self.assertEqual(answer[0], place, sheet)
        self.assertEqual(len(set(answer)), len(answer), sheet)
        self.assertEqual(set(answer), samples.places_touched(sheet, place), sheet)
        for at in range(1, len(answer)):
            self.assertTrue(samples.leaned(sheet, answer[at]) & set(answer[:at]), sheet)
        return answer

    def test_a_cell_that_nobody_leans_on(self):
        self.assertEqual(touched([("number", 1)], 0), [0])
        self.assertEqual(touched([("sum", 1, 2), NOUGHT, NOUGHT], 0), [0])

    def test_rows(self):
        self.assertEqual(touched(samples.forward_row(4), 3), [3, 2, 1, 0])
        self.assertEqual(touched(samples.forward_row(4), 1), [1, 0])
        self.assertEqual(touched(samples.backward_row(4), 0), [0, 1, 2, 3])
        self.assertEqual(touched(samples.backward_row(4), 2), [2, 3])

    def test_a_hundred_cells(self):
        self.assertEqual(touched(samples.forward_row(100), 99), list(range(99, -1, -1)))
        self.assertEqual(touched(samples.backward_row(130), 0), list(range(130)))
        for size in (100, 130):
            self.assertEqual(sorted(self.check([NOUGHT] + [("sum", 0, 0)] * (size - 1), 0)), list(range(size)))

    def test_several_ways_to_a_cell_tell_it_once(self):
        sheet = [NOUGHT, ("sum", 0, 0), ("less", 0, 1), ("pick", 0, 1, 2), ("most", 3, 3), ("number", 0)]
        self.assertEqual(sorted(self.check(sheet, 0)), [0, 1, 2, 3, 4])

    def test_a_cell_that_leans_on_itself(self):
        self.assertEqual(touched([("sum", 0, 0)], 0), [0])
        self.assertEqual(touched([("sum", 0, 2), ("sum", 0, 0), NOUGHT], 0), [0, 1])

    def test_cells_of_a_ring(self):
        self.assertEqual(sorted(self.check(TWO_RINGS, 1)), [1, 2, 3, 4])
        self.assertEqual(sorted(self.check(TWO_RINGS, 6)), [6, 7])
        self.assertEqual(touched(samples.one_ring(100), 5), list(range(5, -1, -1)) + list(range(99, 5, -1)))

    def test_a_pick_is_touched_by_all_three(self):
        for place in (1, 2, 3):
            self.assertEqual(touched([("pick", 1, 2, 3), ("number", 1), NOUGHT, NOUGHT], place), [place, 0])

    def test_a_number_is_touched_by_itself_alone(self):
        self.assertEqual(touched([("number", 1), ("number", 0)], 1), [1])
        self.assertEqual(touched([("number", 1), ("number", 0)], 0), [0])

    def test_a_place_off_the_sheet_is_not_counted_from_the_end(self):
        self.assertEqual(touched([("sum", -1, -2), NOUGHT, ("sum", -3, 3)], 2), [2])
        self.assertEqual(touched([("sum", -1, 3), NOUGHT, NOUGHT], 2), [2])

    def test_many_sheets(self):
        for sheet in samples.many_sheets():
            for place in range(0, len(sheet), 1 + len(sheet) // 15):
                self.check(sheet, place)

    def test_a_place_off_the_sheet_is_refused(self):
        for sheet in ([], [NOUGHT], FIVE_WORDS, TWO_RINGS, samples.forward_row(100)):
            for place in samples.places_off(len(sheet)) + (-len(sheet) or -1,):
                for name in (NoCell, SheetError, ValueError):
                    with self.subTest(size=len(sheet), place=place, name=name), self.assertRaises(name) as taken:
                        touched(sheet, place)
                    self.assertIs(type(taken.exception), NoCell)

    def test_the_places_next_to_those_refused_are_not(self):
        self.assertEqual(touched([NOUGHT] * 3, 0), [0])
        self.assertEqual(touched([NOUGHT] * 3, 2), [2])


class NothingHandedInIsChanged(unittest.TestCase):
    def test_sheets_stay_as_they_were(self):
        for sheet in samples.named_sheets():
            kept = copy.deepcopy(sheet)
            order(sheet)
            ring(sheet)
            for place in range(len(sheet)):
                touched(sheet, place)
            for place in samples.places_off(len(sheet)):
                with self.assertRaises(NoCell):
                    touched(sheet, place)
            self.assertEqual(sheet, kept)

    def test_each_answer_is_a_list_of_its_own(self):
        for call in (lambda: order(TWO_RINGS), lambda: ring(TWO_RINGS), lambda: touched(TWO_RINGS, 0)):
            first = call()
            kept = list(first)
            first.append(99)
            self.assertEqual(call(), kept)

    def test_places_of_many_figures(self):
        sheet = [("sum", HUNDRED, -HUNDRED), ("pick", BEYOND, 0, -BEYOND)]
        kept = list(sheet)
        self.assertEqual(order(sheet), [0, 1])
        self.assertIsNone(ring(sheet))
        self.assertEqual(touched(sheet, 0), [0, 1])
        self.assertEqual(sheet, kept)


if __name__ == "__main__":
    unittest.main()
