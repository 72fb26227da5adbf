"""Sheets put together: joined by links, without a cell, in another order, and with a cell fixed."""

from circlesettle.errors import BadLink, BadSize, CannotBeOut, NotInput, TooDeep
from circlesettle.sheets import (
    MOST_AROUND, MOST_CELLS, cells_in, formulas_in, is_cell, parts_of, turned, turned_sheet, with_inner,
)


def joined(first, second, *, links):
    """The sheet of the two sheets, joined by these links."""
    sources = sources_of(first, second, links)
    if len(first) + len(second) > MOST_CELLS:
        raise BadSize()
    names = {cell: len(first) + cell for cell in range(len(second))}
    made = turned_sheet(first, {}) + turned_sheet(second, names)
    for cell, source in sources.items():
        made[names[cell]] = ("cell", source)
    return made


def sources_of(first, second, links):
    """A dict of the sources of the inputs of these links; raises the first error of a link."""
    sources = {}
    for cell, source in links:
        if not is_cell(cell, second) or not is_cell(source, first) or cell in sources:
            raise BadLink()
        if second[cell][0] != "amount":
            raise NotInput(cell)
        sources[cell] = source
    return sources


def taken_out(sheet, cell):
    """The sheet without the cell, whose formula stands in its place in all other formulas."""
    if not can_be_out(sheet, cell):
        raise CannotBeOut()
    others = sheet[:cell] + sheet[cell + 1:]
    depth = depth_with(sheet[cell], cell, 0)
    if max([depth_with(formula, cell, depth) for formula in others]) > MOST_AROUND:
        raise TooDeep()
    names = {behind: behind - 1 for behind in range(cell + 1, len(sheet))}
    return [turned(filled(formula, cell, sheet[cell]), names) for formula in others]


def can_be_out(sheet, cell):
    """True if the cell can be taken out of the sheet, otherwise False."""
    conditions = [part[1] for formula in sheet for part in parts_of(formula) if part[0] == "when"]
    return len(sheet) > 1 and cell not in cells_in(sheet[cell]) and cell not in conditions


def depth_with(formula, cell, depth):
    """How many others the deepest part stands within, where a formula of this depth stands in the place of the cell."""
    if formula == ("cell", cell):
        return depth
    return max([depth_with(inner, cell, depth) + 1 for inner in formulas_in(formula)], default=0)


def filled(formula, cell, other):
    """The formula with the other one in the place of the cell."""
    if formula == ("cell", cell):
        return other
    return with_inner(formula, [filled(inner, cell, other) for inner in formulas_in(formula)])


def in_order(sheet, order):
    """The sheet in another order, told by the list of the names of all cells."""
    places = {cell: place for place, cell in enumerate(order)}
    return [turned(sheet[cell], places) for cell in order]


def fixed(sheet, cell, amount):
    """The sheet with the cell fixed at the amount."""
    made = turned_sheet(sheet, {})
    made[cell] = ("amount", amount)
    return made
