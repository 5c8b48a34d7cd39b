"""Points 2 and 3, and point 1 as far as it speaks of formulas: leafsheet/formulas.py."""

import unittest

from leafsheet.formulas import leans, looker, reading, value_of

# The greatest whole number of a hundred figures, and one that lies beyond point 1's bound.
HUNDRED = 10 ** 100 - 1
BEYOND = 10 ** 120 + 7

# At places 0 to 6: above nought, below nought, nought, two alike, and two of a hundred figures.
NUMBERS = [5, -3, 0, 8, 8, HUNDRED, -HUNDRED]

# Each row: a formula, and its value over NUMBERS as point 2 asks.
VALUES = [
    (("number", 4), 4),
    (("number", 0), 0),
    (("number", -4), -4),
    (("number", HUNDRED), HUNDRED),
    (("number", -HUNDRED), -HUNDRED),
    (("number", BEYOND), BEYOND),
    (("sum", 0, 1), 2),
    (("sum", 1, 0), 2),
    (("sum", 1, 1), -6),
    (("sum", 0, 0), 10),
    (("sum", 0, 2), 5),
    (("sum", 5, 0), HUNDRED + 5),
    (("sum", 5, 5), 2 * HUNDRED),
    (("sum", 5, 6), 0),
    (("sum", 6, 6), -2 * HUNDRED),
    (("sum", 0, -1), 5),
    (("sum", -1, 0), 5),
    (("sum", 7, 1), -3),
    (("sum", -1, 7), 0),
    (("less", 0, 1), 8),
    (("less", 1, 0), -8),
    (("less", 0, 0), 0),
    (("less", 3, 4), 0),
    (("less", 2, 0), -5),
    (("less", 5, 6), 2 * HUNDRED),
    (("less", 6, 5), -2 * HUNDRED),
    (("less", 0, -1), 5),
    (("less", -1, 0), -5),
    (("less", 7, 1), 3),
    (("less", -8, 7), 0),
    (("most", 0, 1), 5),
    (("most", 1, 0), 5),
    (("most", 3, 4), 8),
    (("most", 0, 0), 5),
    (("most", 1, 1), -3),
    (("most", 1, 2), 0),
    (("most", 5, 6), HUNDRED),
    (("most", 6, 5), HUNDRED),
    (("most", 6, 1), -3),
    (("most", 6, 6), -HUNDRED),
    (("most", 1, -1), 0),
    (("most", 7, 1), 0),
    (("most", 0, 7), 5),
    (("most", -1, 7), 0),
    (("pick", 0, 1, 3), -3),
    (("pick", 2, 1, 3), 8),
    (("pick", 1, 0, 3), 8),
    (("pick", 5, 6, 0), -HUNDRED),
    (("pick", 6, 0, 5), HUNDRED),
    (("pick", 0, 0, 1), 5),
    (("pick", 1, 0, 1), -3),
    (("pick", 2, 0, 0), 5),
    (("pick", 0, 3, 3), 8),
    (("pick", 1, 1, 1), -3),
    (("pick", -1, 0, 1), -3),
    (("pick", 7, 0, 1), -3),
    (("pick", 0, -1, 1), 0),
    (("pick", 0, 7, 1), 0),
    (("pick", 1, 0, -1), 0),
    (("pick", 1, 0, 7), 0),
    (("pick", 0, 1, -1), -3),
    (("pick", -1, -2, -3), 0),
    (("sum", HUNDRED, 0), 5),
    (("less", 0, -HUNDRED), 5),
    (("most", -HUNDRED, 1), 0),
    (("pick", BEYOND, 0, 1), -3),
]


def square_less_ten(place):
    return place * place - 10


# Each row: a formula, and its value where a place p has the value p * p - 10.
VALUES_OVER_SQUARES = [
    (("number", 6), 6),
    (("number", -HUNDRED), -HUNDRED),
    (("sum", 1, 5), 6),
    (("sum", 4, 4), 12),
    (("sum", -4, -1), -3),
    (("less", 1, 5), -24),
    (("less", -5, -4), 9),
    (("less", 9, 9), 0),
    (("most", 1, 5), 15),
    (("most", -5, 1), 15),
    (("most", -5, 5), 15),
    (("most", 0, 1), -9),
    (("pick", 4, 2, 3), -6),
    (("pick", -4, -2, 3), -6),
    (("pick", 3, 2, 5), 15),
    (("pick", 0, 2, -6), 26),
    (("pick", 4, 4, 1), 6),
    (("sum", HUNDRED, 0), HUNDRED * HUNDRED - 20),
]

ONE_OF_EACH = [
    ("number", 3),
    ("sum", 1, 0),
    ("less", 2, 1),
    ("most", 4, 0),
    ("pick", 2, 1, 0),
]


class Leans(unittest.TestCase):
    def check(self, rows):
        for formula, places in rows:
            with self.subTest(formula=formula):
                answer = leans(formula)
                self.assertIs(type(answer), list)
                self.assertEqual(answer, places)

    def test_a_number_leans_on_none(self):
        self.check([
            (("number", 0), []),
            (("number", 7), []),
            (("number", -7), []),
            (("number", HUNDRED), []),
            (("number", -BEYOND), []),
        ])

    def test_words_of_two_places(self):
        for word in ("sum", "less", "most"):
            self.check([
                ((word, 2, 5), [2, 5]),
                ((word, 5, 2), [2, 5]),
                ((word, 10, 9), [9, 10]),
                ((word, 4, 4), [4]),
                ((word, 0, 0), [0]),
                ((word, 0, -1), [-1, 0]),
                ((word, -1, -2), [-2, -1]),
                ((word, -3, -3), [-3]),
                ((word, HUNDRED, -HUNDRED), [-HUNDRED, HUNDRED]),
                ((word, BEYOND, BEYOND - 1), [BEYOND - 1, BEYOND]),
                ((word, BEYOND, BEYOND), [BEYOND]),
            ])

    def test_a_pick_leans_on_all_three(self):
        self.check([
            (("pick", 1, 2, 3), [1, 2, 3]),
            (("pick", 3, 2, 1), [1, 2, 3]),
            (("pick", 2, 3, 1), [1, 2, 3]),
            (("pick", 11, 100, 2), [2, 11, 100]),
            (("pick", 0, -1, 5), [-1, 0, 5]),
            (("pick", HUNDRED, 0, -HUNDRED), [-HUNDRED, 0, HUNDRED]),
            (("pick", -BEYOND, BEYOND, -1), [-BEYOND, -1, BEYOND]),
        ])

    def test_a_pick_with_a_place_more_than_once(self):
        self.check([
            (("pick", 4, 4, 1), [1, 4]),
            (("pick", 4, 1, 4), [1, 4]),
            (("pick", 1, 4, 4), [1, 4]),
            (("pick", 4, 4, 4), [4]),
            (("pick", -4, -4, -4), [-4]),
            (("pick", HUNDRED, HUNDRED, -HUNDRED), [-HUNDRED, HUNDRED]),
        ])

    def test_each_call_answers_a_list_of_its_own(self):
        for formula in ONE_OF_EACH:
            with self.subTest(formula=formula):
                first = leans(formula)
                kept = list(first)
                first.append(99)
                self.assertEqual(leans(formula), kept)


class Looker(unittest.TestCase):
    def test_each_place_of_the_list(self):
        look = looker(NUMBERS)
        self.assertEqual([look(place) for place in range(7)], NUMBERS)

    def test_the_same_place_again(self):
        look = looker([4, 6])
        self.assertEqual([look(1), look(0), look(1), look(5), look(1)], [6, 4, 6, 0, 6])

    def test_below_nought(self):
        look = looker([4, 6, 9])
        for place in (-1, -2, -3, -4, -5, -100, -HUNDRED, -BEYOND):
            with self.subTest(place=place):
                self.assertEqual(look(place), 0)

    def test_the_length_and_beyond(self):
        look = looker([4, 6, 9])
        for place in (3, 4, 5, 100, HUNDRED, BEYOND):
            with self.subTest(place=place):
                self.assertEqual(look(place), 0)

    def test_an_empty_list(self):
        look = looker([])
        for place in (0, -1, 1, 2, HUNDRED, -HUNDRED):
            with self.subTest(place=place):
                self.assertEqual(look(place), 0)

    def test_a_list_of_one(self):
        look = looker([-8])
        self.assertEqual([look(-2), look(-1), look(0), look(1)], [0, 0, -8, 0])

    def test_a_list_beyond_a_hundred(self):
        look = looker([place + 1 for place in range(130)])
        self.assertEqual([look(99), look(100), look(129), look(130)], [100, 101, 130, 0])

    def test_two_lookers_keep_apart(self):
        one = looker([1, 2])
        other = looker([3])
        self.assertEqual([one(0), other(0), one(1), other(1)], [1, 3, 2, 0])


class Reading(unittest.TestCase):
    def test_over_a_looker(self):
        for formula, value in VALUES:
            with self.subTest(formula=formula):
                self.assertEqual(reading(formula)(looker(NUMBERS)), value)

    def test_over_another_function(self):
        for formula, value in VALUES_OVER_SQUARES:
            with self.subTest(formula=formula):
                self.assertEqual(reading(formula)(square_less_ten), value)

    def test_again_with_another_look_and_then_the_first(self):
        one = looker([5, 2, -1, 0, 9])
        other = looker([-7, 4, 3])
        rows = zip(ONE_OF_EACH, [3, 7, -3, 9, 5], [3, -3, -1, 0, 4])
        for formula, over_one, over_other in rows:
            with self.subTest(formula=formula):
                read = reading(formula)
                answers = [read(one), read(other), read(one), read(other)]
                self.assertEqual(answers, [over_one, over_other, over_one, over_other])

    def test_two_readings_keep_apart(self):
        look = looker([5, 2])
        plus = reading(("sum", 0, 1))
        minus = reading(("less", 0, 1))
        self.assertEqual([plus(look), minus(look), plus(look)], [7, 3, 7])

    def test_most_where_both_are_the_same(self):
        for value in (6, 0, -6, HUNDRED, -HUNDRED):
            with self.subTest(value=value):
                self.assertEqual(reading(("most", 0, 1))(looker([value, value])), value)

    def test_pick_turns_above_nought(self):
        read = reading(("pick", 0, 1, 2))
        rows = [(HUNDRED, 20), (2, 20), (1, 20), (0, 30), (-1, 30), (-2, 30), (-HUNDRED, 30)]
        for first, value in rows:
            with self.subTest(first=first):
                self.assertEqual(read(looker([first, 20, 30])), value)


class ValueOf(unittest.TestCase):
    def test_the_value_of_each_word(self):
        for formula, value in VALUES:
            with self.subTest(formula=formula):
                self.assertEqual(value_of(formula, NUMBERS), value)

    def test_the_same_as_the_reading_over_the_looker(self):
        lists = ([], [3], [-3, 7], NUMBERS, [HUNDRED, -HUNDRED, BEYOND, 1, -1])
        places = (-HUNDRED, -6, -1, 0, 1, 2, 4, 7, BEYOND)
        formulas = [(word, i, j) for word in ("sum", "less", "most") for i in places for j in places]
        formulas += [("pick", i, j, k) for i in places for j in places for k in places]
        formulas += [("number", place) for place in places]
        for numbers in lists:
            for formula in formulas:
                expected = reading(formula)(looker(numbers))
                self.assertEqual(value_of(formula, numbers), expected, (formula, numbers))

    def test_over_an_empty_list_places_are_nought(self):
        for formula in ONE_OF_EACH[1:]:
            with self.subTest(formula=formula):
                self.assertEqual(value_of(formula, []), 0)
        self.assertEqual(value_of(("number", -9), []), -9)

    def test_numbers_beyond_a_hundred_figures(self):
        numbers = [BEYOND, -BEYOND]
        self.assertEqual(value_of(("sum", 0, 0), numbers), 2 * BEYOND)
        self.assertEqual(value_of(("less", 1, 0), numbers), -2 * BEYOND)
        self.assertEqual(value_of(("most", 1, 0), numbers), BEYOND)
        self.assertEqual(value_of(("pick", 1, 0, 1), numbers), -BEYOND)
        self.assertEqual(value_of(("pick", 0, 0, 1), numbers), BEYOND)

    def test_the_value_is_a_whole_number(self):
        for formula, value in VALUES:
            with self.subTest(formula=formula):
                self.assertIs(type(value_of(formula, NUMBERS)), int)


class NothingHandedInIsChanged(unittest.TestCase):
    def test_formulas_and_lists_stay_as_they_were(self):
        for formula, value in VALUES:
            with self.subTest(formula=formula):
                numbers = list(NUMBERS)
                kept = list(formula)
                leans(formula)
                look = looker(numbers)
                look(0)
                look(-1)
                look(len(numbers))
                reading(formula)(look)
                value_of(formula, numbers)
                self.assertEqual(numbers, NUMBERS)
                self.assertEqual(list(formula), kept)

    def test_an_empty_list_stays_empty(self):
        numbers = []
        looker(numbers)(0)
        looker(numbers)(-1)
        for formula in ONE_OF_EACH:
            value_of(formula, numbers)
        self.assertEqual(numbers, [])


if __name__ == "__main__":
    unittest.main()
