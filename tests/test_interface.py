"""The interface: each name, where the document puts it, with its arguments."""

import inspect
import unittest

from leafsheet import day, formulas, leaning, sheets

ARGUMENTS = [
    (formulas.leans, ["formula"]),
    (formulas.looker, ["numbers"]),
    (formulas.reading, ["formula"]),
    (formulas.value_of, ["formula", "numbers"]),
    (leaning.order, ["sheet"]),
    (leaning.ring, ["sheet"]),
    (leaning.touched, ["sheet", "place"]),
    (sheets.results, ["sheet"]),
    (sheets.changed, ["sheet", "place", "formula"]),
    (day.answers, ["size", "deeds"]),
]


class Interface(unittest.TestCase):
    def test_the_arguments_bear_their_names(self):
        for function, names in ARGUMENTS:
            with self.subTest(function=function.__name__):
                self.assertEqual(list(inspect.signature(function).parameters), names)


if __name__ == "__main__":
    unittest.main()
