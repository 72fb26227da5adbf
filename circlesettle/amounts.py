"""Amounts: whole numbers from 0 on, and None, which stands for endless."""

# Amounts and shifts that stand in formulas are less than this in absolute value.
LIMIT = 1000


def is_whole(value):
    """True if the value is a whole number, otherwise False."""
    # Python counts True and False as integers; here they are none.
    return isinstance(value, int) and not isinstance(value, bool)


def is_amount(value):
    """True if the value is an amount of any size, otherwise False."""
    return value is None or (is_whole(value) and value >= 0)


def at_most(a, b):
    """True if the amount a is at most the amount b, otherwise False."""
    if b is None:
        return True
    return a is not None and a <= b


def least_of(amounts):
    """The least one of a list of amounts."""
    numbers = [amount for amount in amounts if amount is not None]
    return min(numbers, default=None)


def greatest_of(amounts):
    """The greatest one of a list of amounts."""
    if None in amounts:
        return None
    # A formula that goes beyond the limits may have no parts; that is no error here.
    return max(amounts, default=0)


def shifted(a, c):
    """The amount a with the shift c."""
    if a is None:
        return None
    return max(a + c, 0)


def all_at_most(x, y):
    """True if each amount of x is at most the one at its place in y, otherwise False."""
    return all([at_most(a, b) for a, b in zip(x, y)])
