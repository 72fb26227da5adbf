"""Which cells of a flat sheet hang on which, its knots, and solving it knot by knot."""

from heapq import heapify, heappop, heappush

from circlesettle.flat import followers_of
from circlesettle.greatest import flat_greatest
from circlesettle.least import flat_least


def direct_cells(formula):
    """The list of the cells that stand in the flat formula, ascending, each once."""
    if formula[0] == "amount":
        return []
    if formula[0] == "when":
        return sorted({formula[1], formula[3]})
    return sorted({cell for cell, _ in formula[1]})


def leads_of(flat):
    """The list that has, for each cell, the cells on which it hangs directly."""
    return [direct_cells(formula) for formula in flat]


def reached(leads, cell, seen):
    """The list of the cells that are reached from the cell through cells not seen yet; they count as seen then."""
    fresh = []
    waiting = [cell]
    while waiting:
        latest = waiting.pop()
        for target in leads[latest]:
            if target not in seen:
                seen[target] = True
                fresh.append(target)
                waiting.append(target)
    return fresh


def hangs_on(flat, cell):
    """The list of the cells on which the cell hangs, ascending."""
    return sorted(reached(leads_of(flat), cell, {}))


def hanging(flat, cell):
    """The list of the cells that hang on the cell, ascending."""
    return sorted(reached(followers_of(leads_of(flat)), cell, {}))


def touched(flat, cell):
    """The list of the cells that are touched by the cell, ascending."""
    return sorted(set([cell] + hanging(flat, cell)))


def finished(leads):
    """The list of all cells in the order in which a search, as deep as it can go first, is done with them."""
    done = []
    seen = {}
    # A list of tuples in the place of calls: the search can go as deep as the sheet has cells.
    waiting = [(cell, False) for cell in range(len(leads))]
    while waiting:
        cell, is_left = waiting.pop()
        if is_left:
            done.append(cell)
        elif cell not in seen:
            seen[cell] = True
            waiting.append((cell, True))
            waiting.extend([(target, False) for target in leads[cell] if target not in seen])
    return done


def first_cells(leads):
    """The list that has, for each cell, the first cell of its knot."""
    firsts = [None] * len(leads)
    seen = {}
    for cell in reversed(finished(followers_of(leads))):
        if cell not in seen:
            # All other knots to which the cell leads have been seen by now.
            seen[cell] = True
            knot = [cell] + reached(leads, cell, seen)
            first = min(knot)
            for each in knot:
                firsts[each] = first
    return firsts


def knots_below(leads, firsts):
    """A dict that has, for the first cell of each knot, the first cells of the others on which it hangs directly."""
    below = {first: {} for first in firsts}
    for cell, targets in enumerate(leads):
        for target in targets:
            if firsts[target] != firsts[cell]:
                below[firsts[cell]][firsts[target]] = True
    return {first: list(others) for first, others in below.items()}


def told_order(below):
    """The list of the first cells of the knots, in the order in which these are told."""
    above = {first: [] for first in below}
    for first, others in below.items():
        for other in others:
            above[other].append(first)
    left = {first: len(others) for first, others in below.items()}
    due = [first for first in below if left[first] == 0]
    heapify(due)
    told = []
    while due:
        latest = heappop(due)
        told.append(latest)
        for first in above[latest]:
            left[first] -= 1
            if left[first] == 0:
                heappush(due, first)
    return told


def knots_of(flat):
    """The list of the knots of the flat sheet, in their order."""
    leads = leads_of(flat)
    firsts = first_cells(leads)
    knots = {first: [] for first in firsts}
    for cell, first in enumerate(firsts):
        knots[first].append(cell)
    return [knots[first] for first in told_order(knots_below(leads, firsts))]


def is_circle(flat, knot):
    """True if the knot of the flat sheet is a circle, otherwise False."""
    return len(knot) > 1 or knot[0] in direct_cells(flat[knot[0]])


def depths_of(flat):
    """The list of the depths of the knots of the flat sheet, in their order."""
    leads = leads_of(flat)
    depths = {}
    in_order = []
    for knot in knots_of(flat):
        # The other knots on which this one hangs have their depths, its own cells have none yet.
        below = [depths[target] for cell in knot for target in leads[cell] if target in depths]
        depth = max(below, default=-1) + 1
        in_order.append(depth)
        for cell in knot:
            depths[cell] = depth
    return in_order


def knot_sheet(flat, knot, x):
    """The sheet of the knot beside the amounts x."""
    inside = {cell: True for cell in knot}
    outside = sorted({target for cell in knot for target in direct_cells(flat[cell]) if target not in inside})
    places = {cell: place for place, cell in enumerate(knot + outside)}
    return [placed(flat[cell], places) for cell in knot] + [("amount", x[cell]) for cell in outside]


def placed(formula, places):
    """The flat formula with the places of its cells in the place of their names."""
    word = formula[0]
    if word == "amount":
        return formula
    if word == "when":
        return (word, places[formula[1]], formula[2], places[formula[3]])
    return (word, [(places[cell], shift) for cell, shift in formula[1]])


def solved_by_knots(flat, *, greatest):
    """The least solution of the flat sheet, or the greatest one if told so, made knot by knot."""
    x = [None] * len(flat)
    for knot in knots_of(flat):
        sheet = knot_sheet(flat, knot, x)
        solution = flat_greatest(sheet) if greatest else flat_least(sheet)
        for cell, amount in zip(knot, solution):
            x[cell] = amount
    return x
