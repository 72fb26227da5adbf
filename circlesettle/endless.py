"""Endless cells of plain flat sheets: papers that show them, and ways and choices that tell them from the others."""

from circlesettle.amounts import shifted
from circlesettle.flat import arcs_of, copied
from circlesettle.motion import risen


def conditions_of(flat):
    """The list of the conditions of the flat sheet, ascending."""
    return [cell for cell, formula in enumerate(flat) if formula[0] == "when"]


def opened(flat, places):
    """The flat sheet with these conditions open."""
    are_open = {place: True for place in places}
    return [opened_formula(formula, cell in are_open) for cell, formula in enumerate(flat)]


def opened_formula(formula, is_open):
    """The flat formula that stands in the place of this one where it is open, or is not."""
    if formula[0] == "when":
        return ("greatest", [(formula[3], 0)]) if is_open else ("amount", 0)
    return copied(formula)


def endless_in(x):
    """The list of the cells at which the amounts x are None, ascending."""
    return [cell for cell, amount in enumerate(x) if amount is None]


def endless_cells(plain):
    """The list of the endless cells of the plain flat sheet, ascending."""
    return endless_in(risen(plain).x)


def endless_paper(plain):
    """Choices of "greatest" and potentials that show the endless cells of the plain flat sheet."""
    motion = risen(plain)
    return (endless_choices(plain, motion), potentials_for(motion.x, steps_and_shifts(motion)))


def endless_choices(plain, motion):
    """Choices of "greatest" for the plain flat sheet, by the arcs in force at the endless cells of the motion."""
    choices = [0 if formula[0] == "greatest" else None for formula in plain]
    for cell in endless_in(motion.x):
        if plain[cell][0] == "greatest":
            choices[cell] = plain[cell][1].index(motion.force[cell][0])
    return choices


def steps_and_shifts(motion):
    """A dict of tuples (steps, shifts) for the endless cells of the motion.

    They are the number of steps, and the sum of the shifts, of that way along arcs in force whose shifts
    are together the least, and among these of the longest one. The way with no step is one of them.
    """
    # A step weighs less than any shift here: no such way comes to a cell again, as circles have shifts above 0.
    weight = len(motion.x)
    sums = {cell: 0 for cell in endless_in(motion.x)}
    changing = list(sums)
    while changing:
        changed = []
        for cell in changing:
            ways = [sums[target] + weight * shift - 1 for target, shift in motion.force[cell]]
            if ways and min(ways) < sums[cell]:
                sums[cell] = min(ways)
                changed.append(cell)
        # Backwards in every second turn, so that rows are done soon whichever way they run.
        changing = [cell for cell in reversed(motion.followers_of_all(changed)) if cell in sums]
    steps = {cell: -total % weight for cell, total in sums.items()}
    return {cell: (steps[cell], (total + steps[cell]) // weight) for cell, total in sums.items()}


def potentials_for(x, ways):
    """Potentials for the cells at which x is None; `ways` has their steps and shifts."""
    count = len(endless_in(x))
    potentials = [None] * len(x)
    for cell in endless_in(x):
        steps, shifts = ways[cell]
        potentials[cell] = count * shifts - steps
    return potentials


def are_choices(plain, choices, word):
    """True if the list is one of choices of the side with this word, otherwise False."""
    if len(choices) != len(plain):
        return False
    return all([is_choice_at(formula, choice, word) for formula, choice in zip(plain, choices)])


def is_choice_at(formula, choice, word):
    """True if the choice is right for the formula in choices of the side with this word, otherwise False."""
    if formula[0] != word:
        return choice is None
    return choice is not None and 0 <= choice < len(formula[1])


def shows_endless(plain, choices, potentials):
    """True if the choices and potentials show that the cells that have a potential are endless, otherwise False."""
    if not are_choices(plain, choices, "greatest") or len(potentials) != len(plain):
        return False
    count = len(plain) - potentials.count(None)
    cells = [cell for cell in range(len(plain)) if potentials[cell] is not None]
    return all([is_shown_at(plain[cell], choices[cell], potentials[cell], potentials, count) for cell in cells])


def is_shown_at(formula, choice, potential, potentials, count):
    """True if a cell with this formula, choice and potential is as point 26 says, otherwise False."""
    if formula[0] == "amount":
        return formula[1] is None
    arcs = formula[1] if formula[0] == "least" else [formula[1][choice]]
    for target, shift in arcs:
        if potentials[target] is None or potential - potentials[target] > count * shift - 1:
            return False
    return True


def with_choices(plain, choices):
    """The plain flat sheet in which each cell with "least" has the arc that the choices tell, alone."""
    return [formula if choice is None else ("greatest", [formula[1][choice]])
            for formula, choice in zip(plain, choices)]


def gaining_way(plain, cell, choices):
    """A gaining way with these choices of "least" that begins at the cell, or None if there is none."""
    motion = risen(with_choices(plain, choices))
    if motion.x[cell] is not None:
        return None
    # Each circle of arcs in force has shifts above 0, so each way along them gains.
    way = [cell]
    seen = {cell: True}
    while motion.force[cell]:
        cell = motion.force[cell][0][0]
        way.append(cell)
        if cell in seen:
            return way
        seen[cell] = True
    return way


def is_gaining(plain, choices, way):
    """True if the list is a gaining way with these choices of "least", otherwise False."""
    if not way or not all([0 <= cell < len(plain) for cell in way]):
        return False
    steps = [shifts_of_step(plain, choices, way[at], way[at + 1]) for at in range(len(way) - 1)]
    if [] in steps:
        return False
    last = way[-1]
    if plain[last] == ("amount", None):
        return True
    places = [at for at in range(len(way) - 1) if way[at] == last]
    return bool(places) and sum([max(shifts) for shifts in steps[places[-1]:]]) >= 1


def shifts_of_step(plain, choices, cell, target):
    """The list of the shifts of the arcs by which a way with these choices of "least" can go to the next cell."""
    arcs = arcs_of(plain, cell)
    if plain[cell][0] == "least":
        arcs = [arcs[choices[cell]]]
    return [shift for other, shift in arcs if other == target]


def holding_choices(plain):
    """Choices of "least" that hold all cells that are not endless."""
    x = risen(plain).x
    return [tight_choice(formula, x, cell) if formula[0] == "least" else None
            for cell, formula in enumerate(plain)]


def tight_choice(formula, x, cell):
    """The number of the first arc of the formula of the cell that is tight at the amounts x."""
    values = [shifted(x[target], shift) for target, shift in formula[1]]
    return values.index(x[cell])


def are_holding(plain, choices, cells):
    """True if these choices of "least" hold the list of cells, otherwise False."""
    x = risen(with_choices(plain, choices)).x
    return all([x[cell] is not None for cell in cells])
