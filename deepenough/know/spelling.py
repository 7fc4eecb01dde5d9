"""Rows as they are told to others, and back."""

from deepenough.base.words import is_ascending_below, is_whole


def spelled(board, codes):
    """The row of codes, as a new dict."""
    return {pair: triple_of(board, code) for pair, code in zip(board.plan.pairs, codes)}


def triple_of(board, code):
    """The triple of a code."""
    fails = board.mode_sets[code >> board.width & board.full]
    return (board.mode_sets[code & board.full], fails, code >= board.endless)


def pairs_of(plan, bits):
    """The ascending tuple of the pairs of a name and a mode that are told by a bit for each of them."""
    return tuple([pair for entry, pair in enumerate(plan.pairs) if bits >> entry & 1])


def are_pairs_of(plan, bits, value):
    """Whether the value is this tuple."""
    # True is equal to 1, so what is equal to the tuple can still have a pair that is none.
    return pairs_of(plan, bits) == value and all([is_whole(mode) for _, mode in value])


def codes_told(board, value):
    """The codes of a row of the program by its form; None for every other value."""
    pairs = board.plan.pairs
    if not isinstance(value, dict) or len(value) != len(pairs):
        return None
    # True is equal to 1, so a key that is found can still be no pair of a name and a mode.
    if not all([isinstance(key, tuple) and len(key) == 2 and is_whole(key[1]) for key in value]):
        return None
    if not all([pair in value for pair in pairs]):
        return None
    codes = [_code_of(board, value[pair]) for pair in pairs]
    if None in codes:
        return None
    return tuple(codes)


def is_same_row(told, value):
    """Whether the value is a row that is told."""
    if value != told:
        return False
    # True is equal to 1 and 0 to False, so what is equal to a row can still be none.
    for (_, mode), (leaves, fails, goes_on) in value.items():
        if type(mode) is not int or type(goes_on) is not bool:
            return False
        for held in (*leaves, *fails):
            if type(held) is not int:
                return False
    return True


def _code_of(board, value):
    """The code of a triple; None for every other value."""
    if not isinstance(value, tuple) or len(value) != 3:
        return None
    leaves, fails, goes_on = value
    if not is_ascending_below(leaves, board.width) or not is_ascending_below(fails, board.width):
        return None
    if not isinstance(goes_on, bool):
        return None
    code = board.endless if goes_on else 0
    for mode in leaves:
        code = code | 1 << mode
    for mode in fails:
        code = code | 1 << board.width + mode
    return code
