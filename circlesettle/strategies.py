"""Choices of arcs on a plain flat sheet, and how they become best ones for the least solution."""

from circlesettle.amounts import greatest_of, shifted
from circlesettle.endless import are_choices, endless_paper, holding_choices
from circlesettle.flat import copied
from circlesettle.least import flat_least, least_ranks


def is_choice(flat, choice, *, kind):
    """True if the list is a choice of the kind for the plain flat sheet, otherwise False."""
    return are_choices(flat, choice, kind)


def put_in(flat, choice, *, kind):
    """The plain flat sheet with the choice of the kind put in."""
    return [("greatest", [formula[1][told]]) if formula[0] == kind else copied(formula)
            for formula, told in zip(flat, choice)]


def is_best(flat, choice, *, kind):
    """True if the choice of the kind is best for the plain flat sheet, otherwise False."""
    return flat_least(put_in(flat, choice, kind=kind)) == flat_least(flat)


def best_choice(flat, *, kind):
    """A best choice of the kind for the plain flat sheet."""
    if kind == "least":
        # It holds all cells that are not endless, by arcs that are tight.
        return holding_choices(flat)
    x = flat_least(flat)
    ranks = least_ranks(flat, x)
    choice, _ = endless_paper(flat)
    for cell, formula in enumerate(flat):
        if formula[0] == "greatest" and x[cell] is not None and x[cell] > 0:
            choice[cell] = rising_choice(formula[1], x, cell, ranks)
    return choice


def rising_choice(arcs, x, cell, ranks):
    """The number of the first tight one of these arcs of the cell that leads to a cell with a lesser rank."""
    # Such arcs never go round in a circle, so that the amounts come from below as they are.
    rising = [shifted(x[target], shift) == x[cell] and ranks[target] < ranks[cell] for target, shift in arcs]
    return rising.index(True)


def better(flat, choice, x):
    """The choice of "greatest", changed for the better by the amounts x."""
    return [better_arc(formula[1], told, x) if formula[0] == "greatest" else told
            for formula, told in zip(flat, choice)]


def better_arc(arcs, told, x):
    """The number of the first arc with the greatest value at the amounts x, or the told one if none is better."""
    values = [shifted(x[cell], shift) for cell, shift in arcs]
    most = greatest_of(values)
    return told if values[told] == most else values.index(most)


def steps_of(flat, choice):
    """The list of the steps of the choice of "greatest" for the plain flat sheet."""
    steps = []
    before = None
    after = list(choice)
    while after != before:
        before = after
        x = flat_least(put_in(flat, before, kind="greatest"))
        steps.append((before, x))
        after = better(flat, before, x)
    return steps
