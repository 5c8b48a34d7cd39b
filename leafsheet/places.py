"""Places: which of them lie off a sheet, and the refusal of those."""

from leafsheet.errors import NoCell


def off(row, place):
    # An index below nought would count from the row's end, where a place is off the sheet.
    return place < 0 or place >= len(row)


def require_cell(sheet, place):
    if off(sheet, place):
        # The words leave the place out, as Python refuses to write out very long numbers.
        raise NoCell("the place is off the sheet")
