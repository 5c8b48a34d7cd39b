"""Formulas: which places one leans on, and what value it makes of the values of places."""

from leafsheet.places import off


def leans(formula):
    # The whole number of a "number" is no place.
    if formula[0] == "number":
        return []
    return sorted(set(formula[1:]))


def looker(numbers):
    def look(place):
        if off(numbers, place):
            return 0
        return numbers[place]

    return look


def reading(formula):
    word = formula[0]

    def read(look):
        if word == "number":
            return formula[1]
        if word == "sum":
            return look(formula[1]) + look(formula[2])
        if word == "less":
            return look(formula[1]) - look(formula[2])
        if word == "most":
            return max(look(formula[1]), look(formula[2]))
        # There are five words, so this one is "pick".
        if look(formula[1]) > 0:
            return look(formula[2])
        return look(formula[3])

    return read


def value_of(formula, numbers):
    read = reading(formula)
    return read(looker(numbers))
