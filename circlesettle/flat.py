"""Flat sheets: the flat form of a sheet, the values of flat formulas, and their solutions."""

from circlesettle.amounts import at_most, greatest_of, least_of, shifted


def flat_form(sheet):
    """The flat form of the sheet."""
    formulas = list(sheet)
    flat = []
    # Making a flat formula may add formulas, and these are made flat in their turn.
    while len(flat) < len(formulas):
        flat.append(flat_formula(formulas[len(flat)], formulas))
    return flat


def flat_formula(formula, formulas):
    """The flat formula of a formula; formulas of new cells are added to the list of all formulas."""
    word = formula[0]
    if word == "amount":
        return ("amount", formula[1])
    if word == "when":
        return ("when", formula[1], formula[2], cell_of(formula[3], formulas))
    inner = formula[1] if word in ("least", "greatest") else [formula]
    return ("least" if word == "least" else "greatest", [arc_to(each, formulas) for each in inner])


def arc_to(formula, formulas):
    """The arc that stands for a formula; a new cell is added to the list of all formulas if one is due."""
    if formula[0] == "more":
        return (cell_of(formula[1], formulas), formula[2])
    return (cell_of(formula, formulas), 0)


def cell_of(formula, formulas):
    """The cell of a formula; a new one is added to the list of all formulas if it is no cell itself."""
    if formula[0] == "cell":
        return formula[1]
    formulas.append(formula)
    return len(formulas) - 1


def flat_value(formula, x):
    """The value of the flat formula at the amounts x."""
    word = formula[0]
    if word == "amount":
        return formula[1]
    if word == "when":
        return x[formula[3]] if at_most(formula[2], x[formula[1]]) else 0
    values = [shifted(x[cell], shift) for cell, shift in formula[1]]
    return least_of(values) if word == "least" else greatest_of(values)


def flat_values(flat, x):
    """The list of the values of all flat formulas at the amounts x."""
    return [flat_value(formula, x) for formula in flat]


def is_flat_solution(flat, x):
    """True if x is a solution of the flat sheet, otherwise False."""
    return flat_values(flat, x) == x


def arcs_of(flat, cell):
    """The list of the arcs of a cell."""
    formula = flat[cell]
    if formula[0] == "amount":
        return []
    if formula[0] == "when":
        return [(formula[3], 0)]
    return list(formula[1])


def copied(formula):
    """A new flat formula like this one."""
    if formula[0] in ("least", "greatest"):
        return (formula[0], list(formula[1]))
    return formula


def followers_of(leads):
    """The list that has, for each cell, the cells that lead to it, each once; `leads` has those to which it leads."""
    followers = [[] for _ in leads]
    for cell, targets in enumerate(leads):
        for target in sorted(set(targets)):
            followers[target].append(cell)
    return followers
