"""The errors that a refusal is told with: SheetError for any, NoCell for a place off the sheet."""


class SheetError(ValueError):
    pass


class NoCell(SheetError):
    pass
