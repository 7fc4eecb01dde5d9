"""The forms of mode sets, ends of modes, points and moves."""

from deepenough.base.words import is_ascending_below, is_name, is_whole_within

MOST_MODES = 6
MOST_POINTS = 8
MOST_MOVES = 16

# How many parts a move has, its word included.
PARTS = {"go": 4, "call": 6, "leave": 3, "fail": 3}


def is_mode_set(value, modes):
    """Whether the value is a mode set of a program with so many modes."""
    return is_ascending_below(value, modes) and len(value) > 0


def is_moves(value, points):
    """Whether the value is a tuple of moves of a procedure with so many points."""
    if not isinstance(value, tuple) or len(value) > MOST_MOVES:
        return False
    return all([_is_move(move, points) for move in value])


def highest_mode(moves):
    """The highest mode that moves name, or -1."""
    highest = -1
    for move in moves:
        if move[0] == "go":
            highest = max([highest, *[max(pair) for pair in move[3]]])
        else:
            # A mode set is ascending, so the last one is the highest.
            modes = move[4] if move[0] == "call" else move[2]
            highest = max(highest, modes[-1])
    return highest


def _is_move(value, points):
    """Whether the value is a move between so many points, for programs with as many modes as there can be."""
    if not isinstance(value, tuple) or len(value) == 0 or not isinstance(value[0], str):
        return False
    word = value[0]
    if PARTS.get(word) != len(value) or not is_whole_within(value[1], 0, points - 1):
        return False
    if word == "leave" or word == "fail":
        return is_mode_set(value[2], MOST_MODES)
    if not is_whole_within(value[2], 0, points - 1):
        return False
    if word == "go":
        return _is_pairs(value[3])
    if not is_name(value[3]) or not is_mode_set(value[4], MOST_MODES):
        return False
    return value[5] is None or is_whole_within(value[5], 0, points - 1)


def _is_pairs(value):
    """Whether the value is an ascending tuple of at least one pair of modes."""
    if not isinstance(value, tuple) or len(value) == 0:
        return False
    if not all([_is_pair(pair) for pair in value]):
        return False
    return all([one < other for one, other in zip(value, value[1:])])


def _is_pair(value):
    """Whether the value is a pair of modes."""
    if not isinstance(value, tuple) or len(value) != 2:
        return False
    return is_whole_within(value[0], 0, MOST_MODES - 1) and is_whole_within(value[1], 0, MOST_MODES - 1)
