"""What is a number, a name, a limit."""

LONGEST_NAME = 8


def is_whole(value):
    """Whether the value is an integer; True and False are none."""
    return type(value) is int


def is_whole_within(value, low, high):
    """Whether the value is an integer from low to high, both included."""
    return type(value) is int and low <= value <= high


def is_whole_from(value, low):
    """Whether the value is an integer that is not less than low."""
    return type(value) is int and low <= value


def is_ascending_below(value, bound):
    """Whether the value is an ascending tuple of integers from 0 on that are less than a bound."""
    if not isinstance(value, tuple):
        return False
    last = -1
    for item in value:
        if type(item) is not int or item <= last:
            return False
        last = item
    return last < bound


def is_name(value):
    """Whether the value is a name."""
    if not isinstance(value, str) or not 1 <= len(value) <= LONGEST_NAME:
        return False
    return value.isascii() and value.isalpha() and value.islower()


def is_limit(value):
    """Whether the value is a limit; None is no limit at all, and counts."""
    return value is None or is_whole_from(value, 0)
