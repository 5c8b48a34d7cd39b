"""Sheets for the tests, and what the document asks of them, worked out without the program."""

import itertools

# The greatest whole number of a hundred figures, and one that lies beyond point 1's bound.
HUNDRED = 10 ** 100 - 1
BEYOND = 10 ** 120 + 7

NOUGHT = ("number", 0)

# One cell of each word, some behind and some ahead of what they lean on.
FIVE_WORDS = [
    ("less", 3, 1),
    ("number", -4),
    ("pick", 0, 4, 1),
    ("number", 9),
    ("most", 1, 3),
    ("sum", 0, 2),
]

# Two rings (1, 2) and (6), cells that come to one (3, 4, 7), and cells that come to none (0, 5, 8).
TWO_RINGS = [
    ("number", 7),
    ("sum", 0, 2),
    ("less", 1, 5),
    ("most", 2, 0),
    ("sum", 3, 3),
    ("sum", 0, 8),
    ("pick", 0, 0, 6),
    ("pick", 0, 5, 6),
    ("less", 0, 0),
]


def forward_row(size):
    """Each cell leans on the next, and the last is a number."""
    return [("sum", place + 1, -1) for place in range(size - 1)] + [("number", 3)]


def backward_row(size):
    """Each cell leans on the one ahead of it, and the first is a number."""
    return [("number", 3)] + [("sum", place - 1, size) for place in range(1, size)]


def one_ring(size):
    return [("sum", (place + 1) % size, -1) for place in range(size)]


def all_formulas(words, places, numbers):
    found = [("number", n) for n in numbers]
    for word in words:
        count = 3 if word == "pick" else 2
        found += [(word,) + chosen for chosen in itertools.product(places, repeat=count)]
    return found


def small_sheets():
    """All sheets of few cells over few formulas, with places off the sheet at either end among them."""
    yield []
    words = ("sum", "less", "most", "pick")
    for formula in all_formulas(words, (-2, -1, 0, 1, 2), (-3, 0, 3)):
        yield [formula]
    formulas = all_formulas(("less",), (-1, 0, 1, 2), (-3, 3)) + all_formulas(("pick",), (-1, 0, 1), (0,))
    for pair in itertools.product(formulas, repeat=2):
        yield list(pair)
    for three in itertools.product(all_formulas(("sum",), (0, 1, 2), (5,)), repeat=3):
        yield list(three)


class Drawer:
    """Draws whole numbers by a fixed rule, so that each run sees the same ones."""

    def __init__(self, seed):
        self.state = seed

    def below(self, bound):
        self.state = (self.state * 6364136223846793005 + 1442695040888963407) % 2 ** 64
        return (self.state >> 33) % bound

    def of(self, choices):
        return choices[self.below(len(choices))]

    def place(self, size):
        if self.below(8) == 0:
            return self.of((-1, -2, -size, size, size + 1, HUNDRED, -HUNDRED, BEYOND))
        return self.below(max(size, 1))

    def formula(self, size):
        word = self.of(("number", "number", "sum", "less", "most", "pick"))
        if word == "number":
            return (word, self.of((0, 1, -1, self.below(20) - 10, HUNDRED, -HUNDRED, BEYOND)))
        return (word,) + tuple(self.place(size) for step in range(3 if word == "pick" else 2))

    def sheet(self, size, often_number):
        """The greater `often_number`, the fewer cells lean on others, and the fewer rings there are."""
        return [
            ("number", self.below(9) - 4) if self.below(10) < often_number else self.formula(size)
            for place in range(size)
        ]


def drawn_sheets():
    drawer = Drawer(11)
    for size in list(range(1, 13)) * 8 + [30, 60, 100, 130]:
        for often_number in (0, 3, 6, 8):
            yield drawer.sheet(size, often_number)


def named_sheets():
    yield FIVE_WORDS
    yield TWO_RINGS
    for size in (1, 2, 3, 100, 130):
        yield forward_row(size)
        yield backward_row(size)
        yield one_ring(size)


def many_sheets():
    return itertools.chain(named_sheets(), small_sheets(), drawn_sheets())


def leaned(sheet, place):
    """The cells that a cell leans on."""
    formula = sheet[place]
    if formula[0] == "number":
        return set()
    return set(formula[1:]) & set(range(len(sheet)))


def closure(steps):
    """For each place, the places that are come to by one or more steps."""
    reach = [set(step) for step in steps]
    for middle in range(len(steps)):
        for place in range(len(steps)):
            if middle in reach[place]:
                reach[place] |= reach[middle]
    return reach


def places_without_value(sheet):
    reach = closure([leaned(sheet, place) for place in range(len(sheet))])
    in_rings = {place for place in range(len(sheet)) if place in reach[place]}
    return {place for place in range(len(sheet)) if (reach[place] | {place}) & in_rings}


def places_with_value(sheet):
    return sorted(set(range(len(sheet))) - places_without_value(sheet))


def places_touched(sheet, place):
    reach = closure([leaned(sheet, other) for other in range(len(sheet))])
    return {place} | {other for other in range(len(sheet)) if place in reach[other]}


def expected_results(sheet):
    values = {place: None for place in places_without_value(sheet)}

    def value(place):
        if not 0 <= place < len(sheet):
            return 0
        if place not in values:
            word, *numbers = sheet[place]
            values[place] = numbers[0] if word == "number" else made(word, [value(other) for other in numbers])
        return values[place]

    return [value(place) for place in range(len(sheet))]


def made(word, parts):
    if word == "sum":
        return parts[0] + parts[1]
    if word == "less":
        return parts[0] - parts[1]
    if word == "most":
        return parts[0] if parts[0] >= parts[1] else parts[1]
    return parts[1] if parts[0] >= 1 else parts[2]


def places_off(size):
    """Places off a sheet of so many cells: just off it, farther, and very far, at either end."""
    return (-1, -2, -size - 1, -1000, -HUNDRED, -BEYOND, size, size + 1, size + 1000, HUNDRED, BEYOND)
