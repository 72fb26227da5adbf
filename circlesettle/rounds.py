"""Rounds of a flat sheet, from below and from above."""

from circlesettle.amounts import all_at_most, at_most
from circlesettle.flat import arcs_of, flat_values


def one_round(flat, x):
    """The amounts that one round makes of the amounts x."""
    return flat_values(flat, x)


def after_rounds(flat, x, rounds):
    """The amounts that so many rounds make of the amounts x."""
    for _ in range(rounds):
        x = one_round(flat, x)
    return x


def from_below(flat, *, rounds):
    """The amounts after so many rounds from below."""
    return after_rounds(flat, [0] * len(flat), rounds)


def from_above(flat, *, rounds):
    """The amounts after so many rounds from above."""
    return after_rounds(flat, [None] * len(flat), rounds)


def settled_from(flat, x, rounds):
    """The least number of rounds, at most the told one, after which the amounts x have settled, or None."""
    for done in range(rounds + 1):
        after = one_round(flat, x)
        if after == x:
            return done
        x = after
    return None


def settled_from_below(flat, *, rounds):
    """The least number of rounds from below, at most the told one, after which they have settled, or None."""
    return settled_from(flat, [0] * len(flat), rounds)


def settled_from_above(flat, *, rounds):
    """The least number of rounds from above, at most the told one, after which they have settled, or None."""
    return settled_from(flat, [None] * len(flat), rounds)


def waves_from(flat, x, rounds):
    """The list of the waves of so many rounds that begin with the amounts x."""
    waves = []
    for _ in range(rounds):
        after = one_round(flat, x)
        waves.append([cell for cell in range(len(flat)) if after[cell] != x[cell]])
        x = after
    return waves


def waves_from_below(flat, *, rounds):
    """The list of the waves of so many rounds from below."""
    return waves_from(flat, [0] * len(flat), rounds)


def waves_from_above(flat, *, rounds):
    """The list of the waves of so many rounds from above."""
    return waves_from(flat, [None] * len(flat), rounds)


def first_round(flat, *, cell, amount, rounds):
    """The first number of rounds from below, at most the told one, after which the cell has the amount, or None."""
    x = [0] * len(flat)
    for done in range(rounds + 1):
        if at_most(amount, x[cell]):
            return done
        x = one_round(flat, x)
    return None


def is_low(flat, x):
    """True if one round makes amounts of x that are at least as great, otherwise False."""
    return all_at_most(x, one_round(flat, x))


def is_high(flat, x):
    """True if one round makes amounts of x that are at most as great, otherwise False."""
    return all_at_most(one_round(flat, x), x)


def bound_of(flat):
    """The bound of the flat sheet."""
    amounts = [formula[1] for formula in flat if formula[0] == "amount" and formula[1] is not None]
    shifts = [shift for cell in range(len(flat)) for _, shift in arcs_of(flat, cell)]
    return max(amounts, default=0) + len(flat) * max([0] + shifts)
