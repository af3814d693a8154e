"""Which values are integers, numbers, names and lots.

Values of all kinds come here, so each question asks for the kind first
and calls nothing that an unknown object may hold.
"""


def is_integer(value):
    """Whether any value is an int that is not a bool."""
    return isinstance(value, int) and not isinstance(value, bool)


def is_number(value):
    """Whether any value is an integer from 0 on."""
    return is_integer(value) and value >= 0


def is_below(value, bound):
    """Whether any value is a number below a bound."""
    return is_number(value) and value < bound


def is_name(value):
    """Whether any value is a string of 1 to 6 lower-case letters."""
    if not isinstance(value, str) or not 1 <= len(value) <= 6:
        return False
    return all(["a" <= sign <= "z" for sign in value])


def is_lot(value):
    """Whether any value is a lot of numbers."""
    if not isinstance(value, tuple):
        return False
    last = -1
    for item in value:
        if not is_integer(item) or item <= last:
            return False
        last = item
    return True


def is_lot_below(value, bound):
    """Whether any value is a lot of numbers below a bound."""
    return is_lot(value) and (not value or value[-1] < bound)


def has_each_once(value, lot):
    """Whether any value is a tuple with each number of a lot once."""
    if not isinstance(value, tuple) or len(value) != len(lot):
        return False
    if not all([is_integer(item) for item in value]):
        return False
    return tuple(sorted(value)) == lot
