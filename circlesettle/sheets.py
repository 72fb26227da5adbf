"""Sheets: their check, the values of their formulas, and their solutions."""

from circlesettle.amounts import LIMIT, at_most, greatest_of, is_whole, least_of, shifted
from circlesettle.errors import BadAmount, BadCell, BadForm, BadShift, BadSize, TooDeep

MOST_CELLS = 24
MOST_FORMULAS = 6
MOST_AROUND = 5

# How many elements the tuple of each word has, the word included.
LENGTHS = {"amount": 2, "cell": 2, "more": 3, "least": 2, "greatest": 2, "when": 4}


def formulas_in(formula):
    """The list of the formulas that stand directly in the formula, in order."""
    word = formula[0]
    if word == "more":
        return [formula[1]]
    if word == "when":
        return [formula[3]]
    if word in ("least", "greatest"):
        return list(formula[1])
    return []


def parts_of(formula):
    """The list of the parts of the formula: itself, then those of the formulas in it, in order."""
    parts = [formula]
    for inner in formulas_in(formula):
        parts.extend(parts_of(inner))
    return parts


def cells_in(formula):
    """The list of the cells that stand in the formula, ascending, each once."""
    return sorted({part[1] for part in parts_of(formula) if part[0] in ("cell", "when")})


def with_inner(formula, inner):
    """The formula with these formulas in the place of those that stand directly in it."""
    word = formula[0]
    if word == "more":
        return (word, inner[0], formula[2])
    if word == "when":
        return (word, formula[1], formula[2], inner[0])
    return (word, inner) if word in ("least", "greatest") else formula


def turned(formula, names):
    """A new formula like this one, in which cells that `names` has are called as it tells."""
    made = with_inner(formula, [turned(inner, names) for inner in formulas_in(formula)])
    if formula[0] in ("cell", "when"):
        return (made[0], names.get(made[1], made[1])) + made[2:]
    return made


def turned_sheet(sheet, names):
    """A new sheet like this one, in which cells that `names` has are called as it tells."""
    return [turned(formula, names) for formula in sheet]


def value_of(formula, x):
    """The value of the formula at the amounts x."""
    word = formula[0]
    if word == "amount":
        return formula[1]
    if word == "cell":
        return x[formula[1]]
    if word == "more":
        return shifted(value_of(formula[1], x), formula[2])
    if word == "when":
        return value_of(formula[3], x) if at_most(formula[2], x[formula[1]]) else 0
    values = [value_of(inner, x) for inner in formula[1]]
    return least_of(values) if word == "least" else greatest_of(values)


def values_of(sheet, x):
    """The list of the values of all formulas of the sheet at the amounts x."""
    return [value_of(formula, x) for formula in sheet]


def is_solution(sheet, x):
    """True if the amounts x are a solution of the sheet, otherwise False."""
    return values_of(sheet, x) == x


def check_sheet(sheet):
    """Raise the first error that is due for the sheet; return None if there is none."""
    if not 1 <= len(sheet) <= MOST_CELLS:
        raise BadSize()

    def is_name(value):
        return is_cell(value, sheet)

    for formula in sheet:
        check_formula(formula, is_name)


def check_formula(formula, is_name):
    """Raise the first error of the formula; `is_name` tells of any value whether it is the name of a cell."""
    check_part(formula, is_name, 0)


def check_part(part, is_name, around):
    """Raise the first error of a part that stands within `around` others."""
    # The depth comes first, so what goes on below the limit is never looked at.
    if around > MOST_AROUND:
        raise TooDeep()
    if LENGTHS.get(part[0]) != len(part):
        raise BadForm()
    check_numbers(part, is_name)
    for inner in formulas_in(part):
        check_part(inner, is_name, around + 1)


def check_numbers(part, is_name):
    """Raise the first error of the numbers, names and sizes of a part that has the right form."""
    word = part[0]
    if word == "amount" and not (part[1] is None or is_from_to(part[1], 0, LIMIT - 1)):
        raise BadAmount()
    if word in ("cell", "when") and not is_name(part[1]):
        raise BadCell()
    if word == "more" and not is_from_to(part[2], 1 - LIMIT, LIMIT - 1):
        raise BadShift()
    if word in ("least", "greatest") and not 1 <= len(part[1]) <= MOST_FORMULAS:
        raise BadSize()
    if word == "when" and not is_from_to(part[2], 1, LIMIT - 1):
        raise BadAmount()


def is_cell(value, sheet):
    """True if the value is a cell of the sheet, otherwise False."""
    return is_from_to(value, 0, len(sheet) - 1)


def is_from_to(value, first, last):
    """True if the value is a whole number from the first to the last one, otherwise False."""
    return is_whole(value) and first <= value <= last
