"""Sheets: what each cell has, and a sheet with one cell changed."""

from leafsheet.formulas import value_of
from leafsheet.leaning import order
from leafsheet.places import require_cell


def results(sheet):
    # Formulas are read over whole numbers alone, so None is kept apart; a nought that stands for it is never read,
    # as no cell of the order leans on a cell outside it.
    numbers = [0 for formula in sheet]
    told = [None for formula in sheet]
    for place in order(sheet):
        value = value_of(sheet[place], numbers)
        numbers[place] = value
        told[place] = value
    return told


def changed(sheet, place, formula):
    require_cell(sheet, place)
    fresh = list(sheet)
    fresh[place] = formula
    return fresh
