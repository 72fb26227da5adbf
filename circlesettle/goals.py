"""Goals: what an input must be for a cell to reach a number, and checks of inputs that do not reach it."""

from circlesettle.amounts import LIMIT, at_most
from circlesettle.errors import NotInput
from circlesettle.flat import arcs_of, copied
from circlesettle.greatest import flat_greatest
from circlesettle.least import flat_least
from circlesettle.rounds import is_high


def set_input(flat, cell, amount):
    """The flat sheet with the input set to the amount."""
    if not 0 <= cell < len(flat) or flat[cell][0] != "amount":
        raise NotInput(cell)
    made = [copied(formula) for formula in flat]
    made[cell] = ("amount", amount)
    return made


def amount_below(flat, input_cell, cell, amount):
    """The amount of the cell in the least solution, with the input set to the amount."""
    return flat_least(set_input(flat, input_cell, amount))[cell]


def amount_above(flat, input_cell, cell, amount):
    """The amount of the cell in the greatest solution, with the input set to the amount."""
    return flat_greatest(set_input(flat, input_cell, amount))[cell]


def most_needed(flat, goal):
    """A number that reaches the goal as an input if any number does."""
    numbers = [abs(shift) for cell in range(len(flat)) for _, shift in arcs_of(flat, cell)]
    numbers += [formula[2] for formula in flat if formula[0] == "when"]
    # The bound of point 45, but for sheets with numbers beyond the limit, for which it grows with them.
    most = max([LIMIT, goal] + numbers)
    return most + 2 * most * len(flat)


def first_reaching(flat, input_cell, cell, goal, amount_with):
    """The least number that as the input makes `amount_with` of the cell at least the goal, or None."""
    low = 0
    high = most_needed(flat, goal)
    if not at_most(goal, amount_with(flat, input_cell, cell, high)):
        return None
    while low < high:
        middle = (low + high) // 2
        if at_most(goal, amount_with(flat, input_cell, cell, middle)):
            high = middle
        else:
            low = middle + 1
    return low


def need(flat, input_cell, *, cell, goal):
    """The need of the goal for the input, or None if no number reaches it."""
    return first_reaching(flat, input_cell, cell, goal, amount_below)


def need_in_greatest(flat, input_cell, *, cell, goal):
    """The need of the goal for the input in the greatest solution, or None if no number reaches it."""
    return first_reaching(flat, input_cell, cell, goal, amount_above)


def answers(flat, input_cell, *, cell, most):
    """The answers of the cell to the input, for the numbers up to the told one."""
    steps = []
    for number in range(most + 1):
        amount = amount_below(flat, input_cell, cell, number)
        if not steps or steps[-1][1] != amount:
            steps.append((number, amount))
    return steps


def is_missed(flat, input_cell, *, cell, goal, amount, x):
    """True if the amounts x are a check that this number as the input does not reach the goal, otherwise False."""
    return is_high(set_input(flat, input_cell, amount), x) and not at_most(goal, x[cell])


def miss_of(flat, input_cell, *, cell, goal, amount):
    """A check that this number as the input does not reach the goal, or None if it does."""
    x = flat_least(set_input(flat, input_cell, amount))
    return None if at_most(goal, x[cell]) else x
