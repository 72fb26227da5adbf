"""The greatest solutions of flat sheets and of sheets, their stages, and papers that show them."""

from circlesettle.amounts import at_most, shifted
from circlesettle.endless import conditions_of, opened
from circlesettle.flat import flat_form, is_flat_solution
from circlesettle.motion import DOWN, Motion, ranks_in_rounds


def held_ranks(plain):
    """The held ranks of the plain flat sheet."""
    firsts = []
    waits = {}
    for cell, formula in enumerate(plain):
        if formula[0] != "amount":
            targets = [target for target, _ in formula[1]]
            waits[cell] = (1 if formula[0] == "least" else len(targets), targets)
        elif formula[1] is not None:
            firsts.append(cell)
    return ranks_in_rounds(len(plain), firsts, waits)


def tight_ranks(plain, x):
    """The tight ranks of the solution x of the plain flat sheet."""
    firsts = []
    waits = {}
    for cell, formula in enumerate(plain):
        if x[cell] is not None and formula[0] == "amount":
            firsts.append(cell)
        elif x[cell] is not None:
            targets = free_targets(formula, x, cell)
            waits[cell] = (tight_wait(formula, x, cell, targets), targets)
    return ranks_in_rounds(len(plain), firsts, waits)


def tight_wait(formula, x, cell, targets):
    """How many of these targets must have tight ranks before the cell, which has a number, gets its own."""
    if formula[0] == "greatest":
        return len(targets)
    return 0 if is_on_floor(formula, x, cell) else 1


def free_targets(formula, x, cell):
    """The list of the cells with numbers to which those arcs lead whose value, without the floor, is the amount."""
    return [target for target, shift in formula[1] if x[target] is not None and x[target] + shift == x[cell]]


def is_on_floor(formula, x, cell):
    """True if the amount of the cell is 0 and the floor keeps the value of some arc from being less."""
    return x[cell] == 0 and any([x[target] is not None and x[target] + shift < 0 for target, shift in formula[1]])


def shows_greatest(plain, x, held, tight):
    """True if x, held ranks and tight ranks show that x is the greatest solution of the plain flat sheet."""
    if len(x) != len(plain) or len(held) != len(plain) or len(tight) != len(plain):
        return False
    if not is_flat_solution(plain, x):
        return False
    cells = [cell for cell, amount in enumerate(x) if amount is not None]
    if None in [held[cell] for cell in cells] or None in [tight[cell] for cell in cells]:
        return False
    return all([is_held(plain[cell], x, cell, held) and is_tight(plain[cell], x, cell, tight) for cell in cells])


def is_held(formula, x, cell, held):
    """True if the held rank of the cell, which has a number, is right, otherwise False."""
    if formula[0] == "amount":
        return True
    lesser = [x[target] is not None and held[target] < held[cell] for target, _ in formula[1]]
    return any(lesser) if formula[0] == "least" else all(lesser)


def is_tight(formula, x, cell, tight):
    """True if the tight rank of the cell, which has a number, is right, otherwise False."""
    if formula[0] == "amount":
        return True
    lesser = [tight[target] < tight[cell] for target in free_targets(formula, x, cell)]
    if formula[0] == "greatest":
        return all(lesser)
    return is_on_floor(formula, x, cell) or any(lesser)


def fallen(plain):
    """The motion of the plain flat sheet that has come down to its greatest solution."""
    x = [formula[1] if formula[0] == "amount" else None for formula in plain]
    motion = Motion(plain, x, DOWN)
    fall(motion, [], hold(motion, [cell for cell, amount in enumerate(x) if amount is not None]))
    return motion


def hold(motion, cells):
    """Give a number to each cell that is held once these have numbers; return the cells that can be too great now."""
    held = list(cells)
    at = 0
    while at < len(held):
        latest = held[at]
        for cell in motion.followers[latest]:
            if motion.x[cell] is None:
                motion.force[cell] = holding_arcs(motion, cell)
                if motion.force[cell]:
                    values = [shifted(motion.x[target], shift) for target, shift in motion.force[cell]]
                    motion.x[cell] = max(values)
                    held.append(cell)
        at += 1
    return list({cell: True for cell in held + motion.followers_of_all(held)})


def holding_arcs(motion, cell):
    """The arcs by which a cell without a number is held; none if it is not."""
    arcs = motion.arcs[cell]
    held = [arc for arc in arcs if motion.x[arc[0]] is not None]
    if motion.words[cell] == "greatest":
        return arcs if len(held) == len(arcs) else []
    return held[:1]


def fall(motion, starts, cells):
    """Go down to the greatest solution, where the starts have lesser values, and besides them these cells may have."""
    while starts or cells:
        moved = motion.move(starts + lowered(motion, cells))
        cells = motion.followers_of_all(moved)
        starts = []


def lowered(motion, cells):
    """The list of those of these cells whose values are below their amounts; their arcs in force are put in place."""
    starts = []
    for cell in cells:
        arc = lowering_arc(motion, cell)
        if arc is not None:
            motion.force[cell] = [arc]
            starts.append(cell)
    return starts


def lowering_arc(motion, cell):
    """The arc of "least" by which the value of the cell is below its amount, or None if it is not."""
    # On the floor, arcs have gaps as if they went below it.
    if motion.words[cell] != "least" or motion.x[cell] is None or motion.x[cell] == 0:
        return None
    gaps = [(motion.gap(cell, arc), arc) for arc in motion.arcs[cell] if motion.x[arc[0]] is not None]
    gap, arc = max(gaps)
    return arc if gap > 0 else None


def stages_from_above(flat):
    """The stages from above of the flat sheet."""
    places = conditions_of(flat)
    motion = fallen(opened(flat, places))
    stages = [(places, list(motion.x))]
    missed = missed_conditions(flat, places, motion.x)
    while missed:
        close_conditions(motion, missed)
        places = [cell for cell in places if motion.words[cell] != "amount"]
        stages.append((places, list(motion.x)))
        missed = missed_conditions(flat, places, motion.x)
    return stages


def missed_conditions(flat, cells, x):
    """The list of those of these conditions whose numbers are not reached at the amounts x."""
    return [cell for cell in cells if not at_most(flat[cell][2], x[flat[cell][1]])]


def close_conditions(motion, cells):
    """Close these conditions in the sheet of the motion, and go down to its greatest solution."""
    for cell in cells:
        motion.words[cell] = "amount"
        motion.arcs[cell] = []
        motion.force[cell] = []
    fresh = [cell for cell in cells if motion.x[cell] is None]
    for cell in fresh:
        motion.x[cell] = 0
    # What has no arcs in force falls to the floor at once.
    starts = [cell for cell in cells if motion.x[cell] > 0]
    fall(motion, starts, hold(motion, fresh))


def flat_greatest(flat):
    """The greatest solution of the flat sheet."""
    _, x = stages_from_above(flat)[-1]
    return x


def greatest_solution(sheet):
    """The greatest solution of the sheet."""
    return flat_greatest(flat_form(sheet))[:len(sheet)]


def greatest_paper(flat):
    """A right paper for the greatest solution of the flat sheet."""
    paper = []
    for places, x in stages_from_above(flat):
        plain = opened(flat, places)
        paper.append((places, x, held_ranks(plain), tight_ranks(plain, x)))
    return paper


def is_greatest_paper(flat, paper):
    """True if the paper is a right one for the greatest solution of the flat sheet, otherwise False."""
    if not paper or paper[0][0] != conditions_of(flat):
        return False
    for at, (places, x, held, tight) in enumerate(paper):
        if at > 0 and not closes_more(flat, paper[at - 1], places):
            return False
        if not shows_greatest(opened(flat, places), x, held, tight):
            return False
    return is_flat_solution(flat, paper[-1][1])


def closes_more(flat, before, places):
    """True if just these conditions may be open in the stage of a paper behind this one, otherwise False."""
    is_place = {cell: True for cell in places}
    if places != [cell for cell in before[0] if cell in is_place] or len(places) == len(before[0]):
        return False
    lacking = [cell for cell in before[0] if cell not in is_place]
    return missed_conditions(flat, lacking, before[1]) == lacking
