"""The errors that the program raises."""


class SheetError(ValueError):
    """The base class of all errors that the program raises."""


class BadSize(SheetError):
    """There are too few or too many cells, or formulas in one formula."""


class BadForm(SheetError):
    """A formula has a strange word, or another number of parts than its word asks for."""


class BadAmount(SheetError):
    """A value is not an amount, or not one that may stand at its place."""


class BadCell(SheetError):
    """A value is not the name of a cell."""


class BadShift(SheetError):
    """A value is not a shift that may stand in a formula."""


class TooDeep(SheetError):
    """A part of a formula stands within too many others."""


class BadText(SheetError):
    """A text is not a written form; the first error is at this line and column, counted from 1."""

    def __init__(self, line, column):
        self.line = line
        self.column = column


class NotInput(SheetError):
    """The cell that is told as an input is none."""

    def __init__(self, cell):
        self.cell = cell


class BadName(SheetError):
    """A value is not a name, or not one that is free."""


class UnknownName(SheetError):
    """A name is not there."""


class InUse(SheetError):
    """A name cannot be removed, as the formula of another name uses it."""


class NothingToUndo(SheetError):
    """No deed is in force that could be undone."""


class NothingToRedo(SheetError):
    """No deed was undone that could be done again."""


class BadEntry(SheetError):
    """The entry at this place of a journal, counted from 0, cannot be done."""

    def __init__(self, place):
        self.place = place


class BadLink(SheetError):
    """A link does not lead from a cell of the first sheet to a free one of the second."""


class CannotBeOut(SheetError):
    """A cell cannot be taken out of its sheet."""
