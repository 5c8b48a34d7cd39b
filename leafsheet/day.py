"""A day: a sheet that begins with noughts, and the answers to the deeds done on it."""

from leafsheet.errors import NoCell
from leafsheet.places import require_cell
from leafsheet.sheets import changed, results


class Day:
    def __init__(self, size):
        self.sheet = [("number", 0) for place in range(size)]
        # Kept beside the sheet, so that a look needs no reckoning and a put only one.
        self.told = results(self.sheet)

    def put(self, place, formula):
        sheet = changed(self.sheet, place, formula)
        told = results(sheet)
        moved = [cell for cell in range(len(told)) if told[cell] != self.told[cell]]
        self.sheet = sheet
        self.told = told
        return moved

    def look(self, place):
        require_cell(self.sheet, place)
        return self.told[place]


def answer(day, deed):
    try:
        if deed[0] == "put":
            return day.put(deed[1], deed[2])
        return day.look(deed[1])
    except NoCell:
        return "no cell"


def answers(size, deeds):
    day = Day(size)
    given = []
    for deed in deeds:
        given.append(answer(day, deed))
    return given
