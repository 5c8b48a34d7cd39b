"""Leaning: an order of the cells that have a value, a ring of cells, and what a cell touches."""

from leafsheet.formulas import leans
from leafsheet.places import off, require_cell


def leaned_cells(sheet, place):
    # A place off the sheet is no cell: it holds nothing up and closes no ring.
    return [other for other in leans(sheet[place]) if not off(sheet, other)]


def leaners(sheet):
    rows = [[] for formula in sheet]
    for place in range(len(sheet)):
        for other in leaned_cells(sheet, place):
            rows[other].append(place)
    return rows


def order(sheet):
    rows = leaners(sheet)
    # How many of the cells that each one leans on were not walked yet. For a cell in a ring, or one that comes to a
    # ring, this never falls to nought, which keeps it out of the order.
    waits = [len(leaned_cells(sheet, place)) for place in range(len(sheet))]
    found = [place for place in range(len(sheet)) if waits[place] == 0]
    at = 0
    while at < len(found):
        place = found[at]
        for leaner in rows[place]:
            waits[leaner] = waits[leaner] - 1
            if waits[leaner] == 0:
                found.append(leaner)
        at = at + 1
    return found


def ring(sheet):
    settled = order(sheet)
    held = [place for place in range(len(sheet)) if place not in settled]
    if len(held) == 0:
        return None
    # Each cell without a value leans on one without a value, so this walk can always go on, and must come round.
    trail = []
    place = held[0]
    while place not in trail:
        trail.append(place)
        onward = [other for other in leaned_cells(sheet, place) if other in held]
        place = onward[0]
    # What was walked ahead of the cell that came round only leads to the ring.
    return trail[trail.index(place):]


def touched(sheet, place):
    require_cell(sheet, place)
    rows = leaners(sheet)
    found = [place]
    at = 0
    while at < len(found):
        current = found[at]
        for leaner in rows[current]:
            if leaner not in found:
                found.append(leaner)
        at = at + 1
    return found
