"""The form of ends, and the ends in numbers."""

from deepenough.base.words import is_whole_within


def is_end(value, modes):
    """Whether the value is an end of a program with so many modes."""
    if not isinstance(value, tuple) or len(value) != 2:
        return False
    return (value[0] == "left" or value[0] == "failed") and is_whole_within(value[1], 0, modes - 1)


def is_ends(value, modes):
    """Whether the value is an ascending tuple of ends of a program with so many modes."""
    if not isinstance(value, tuple) or not all([is_end(end, modes) for end in value]):
        return False
    return all([one < other for one, other in zip(value, value[1:])])


def end_number(end, modes):
    """The number of an end: the mode of one that is left, and behind them those that have failed."""
    return end[1] if end[0] == "left" else modes + end[1]


def end_of(number, modes):
    """The end with a number."""
    return ("left", number) if number < modes else ("failed", number - modes)
