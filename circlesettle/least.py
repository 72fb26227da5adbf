"""The least solutions of flat sheets and of sheets, their stages, and papers that show them."""

from circlesettle.amounts import at_most, shifted
from circlesettle.endless import conditions_of, endless_choices, opened, potentials_for, shows_endless, steps_and_shifts
from circlesettle.flat import flat_form, is_flat_solution
from circlesettle.motion import ranks_in_rounds, rise, risen


def tight_targets(formula, x, cell):
    """The list of the cells to which the tight arcs of the formula of the cell lead at the amounts x."""
    return [target for target, shift in formula[1] if shifted(x[target], shift) == x[cell]]


def are_ranks(plain, x, ranks):
    """True if the ranks are right for the solution x of the plain flat sheet, otherwise False."""
    if len(ranks) != len(plain):
        return False
    for rank, amount in zip(ranks, x):
        if (rank is None) != (amount is None) or (rank is not None and rank < 0):
            return False
    cells = [cell for cell, amount in enumerate(x) if amount is not None and amount > 0]
    return all([is_ranked(plain[cell], x, cell, ranks) for cell in cells])


def is_ranked(formula, x, cell, ranks):
    """True if the rank of a cell with this formula and a number above 0 is right, otherwise False."""
    if formula[0] == "amount":
        return True
    # At a number above 0 a tight arc leads to a number, which has a rank.
    lesser = [ranks[target] < ranks[cell] for target in tight_targets(formula, x, cell)]
    return all(lesser) if formula[0] == "least" else any(lesser)


def least_ranks(plain, x):
    """Right ranks for the least solution x of the plain flat sheet."""
    firsts = []
    waits = {}
    for cell, formula in enumerate(plain):
        if x[cell] == 0 or (x[cell] is not None and formula[0] == "amount"):
            firsts.append(cell)
        elif x[cell] is not None:
            targets = tight_targets(formula, x, cell)
            waits[cell] = (len(targets) if formula[0] == "least" else 1, targets)
    return ranks_in_rounds(len(plain), firsts, waits)


def climb(flat):
    """The stages from below of the flat sheet, and the motion that has gone through them all."""
    motion = risen(opened(flat, []))
    places = []
    stages = [([], list(motion.x))]
    closed = conditions_of(flat)
    reached = reached_conditions(flat, closed, motion.x)
    while reached:
        for cell in reached:
            open_condition(motion, cell, flat[cell][3])
        rise(motion, reached)
        places = sorted(places + reached)
        stages.append((places, list(motion.x)))
        closed = [cell for cell in closed if motion.words[cell] == "amount"]
        reached = reached_conditions(flat, closed, motion.x)
    return stages, motion


def reached_conditions(flat, cells, x):
    """The list of those of these conditions whose numbers are reached at the amounts x."""
    return [cell for cell in cells if at_most(flat[cell][2], x[flat[cell][1]])]


def open_condition(motion, cell, target):
    """Open the condition with this target in the sheet of the motion."""
    motion.words[cell] = "greatest"
    motion.arcs[cell] = [(target, 0)]
    motion.followers[target].append(cell)


def stages_from_below(flat):
    """The stages from below of the flat sheet."""
    stages, _ = climb(flat)
    return stages


def flat_least(flat):
    """The least solution of the flat sheet."""
    _, motion = climb(flat)
    return motion.x


def least_solution(sheet):
    """The least solution of the sheet."""
    return flat_least(flat_form(sheet))[:len(sheet)]


def least_paper(flat):
    """A right paper for the least solution of the flat sheet."""
    stages, motion = climb(flat)
    # A cell that is endless stays so, by the same arcs in force, in all later stages.
    choices = endless_choices(opened(flat, stages[-1][0]), motion)
    ways = steps_and_shifts(motion)
    paper = []
    for places, x in stages:
        plain = opened(flat, places)
        here = [choice if formula[0] == "greatest" else None for choice, formula in zip(choices, plain)]
        paper.append((places, x, least_ranks(plain, x), here, potentials_for(x, ways)))
    return paper


def is_least_paper(flat, paper):
    """True if the paper is a right one for the least solution of the flat sheet, otherwise False."""
    if not paper or paper[0][0]:
        return False
    for at, stage in enumerate(paper):
        if at > 0 and not opens_more(flat, paper[at - 1], stage[0]):
            return False
        if not is_least_stage(opened(flat, stage[0]), stage):
            return False
    return is_flat_solution(flat, paper[-1][1])


def opens_more(flat, before, places):
    """True if these conditions may be open in the stage of a paper behind this one, otherwise False."""
    conditions = {cell: True for cell in conditions_of(flat)}
    if not all([cell in conditions for cell in places]) or places != sorted(set(places)):
        return False
    # Both are ascending lists, so that the one has all of the other and more if none is missing.
    is_place = {cell: True for cell in places}
    if len(places) <= len(before[0]) or not all([cell in is_place for cell in before[0]]):
        return False
    return reached_conditions(flat, places, before[1]) == places


def is_least_stage(plain, stage):
    """True if a tuple of a paper shows that its amounts are the least solution of its plain flat sheet."""
    _, x, ranks, choices, potentials = stage
    if len(x) != len(plain) or not is_flat_solution(plain, x) or not are_ranks(plain, x, ranks):
        return False
    if [amount is None for amount in x] != [potential is not None for potential in potentials]:
        return False
    return shows_endless(plain, choices, potentials)
