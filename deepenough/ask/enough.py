"""Limits that are enough: at which it is as if there were none."""

from deepenough.base.checks import check_program
from deepenough.base.words import is_whole_from, is_whole_within
from deepenough.errors import InvalidLimit
from deepenough.know.ladders import MOST_ROWS, ladder_of
from deepenough.know.rounds import marked_limits, rows_below, tells_rows, tells_short_rounds
from deepenough.know.spelling import triple_of


def enough(program):
    """The set of all limits that are enough."""
    check_program(program)
    plan, ladder = program._plan, ladder_of(program)
    ladder.check_round()
    codes = ladder.without_limit()[0]
    return marked_limits(ladder, [all([told[entry] == codes[entry] for entry in plan.begun]) for told in ladder.told])


def wholly_enough(program):
    """The set of all limits that are enough for all procedures and modes."""
    check_program(program)
    ladder = ladder_of(program)
    ladder.check_round()
    codes = ladder.without_limit()[0]
    return marked_limits(ladder, [told == codes for told in ladder.told])


def least_enough(program):
    """The least limit from which on all are enough, or None."""
    found = enough(program)
    # A set that has all numbers from one on is told by the period 1 and the first of these numbers.
    return found.first if found.period == 1 and found.rests == (0,) else None


def unlike_at(program, limit):
    """The triples at a limit and without one, by the pairs of a name and a mode for which they are unlike."""
    check_program(program)
    if not is_whole_from(limit, 0):
        raise InvalidLimit("this is no limit, or none at all")
    ladder = ladder_of(program)
    ladder.check_round()
    board, told, codes = ladder.board, ladder.told[ladder.place(limit)], ladder.without_limit()[0]
    return {pair: (triple_of(board, code), triple_of(board, other))
            for pair, code, other in zip(program._plan.pairs, told, codes) if code != other}


def enough_paper(program):
    """The enough paper with the least limit, or with the least period and then the least first."""
    check_program(program)
    ladder = ladder_of(program)
    ladder.check_round()
    rows = rows_below(program, len(ladder.told))
    # The row without a limit follows from itself, so no other one can be behind it.
    if ladder.told[-1] == ladder.without_limit()[0]:
        return ("from", ladder.low, rows)
    return ("never", ladder.low, ladder.span, rows)


def is_enough_paper(program, value):
    """Whether the value is an enough paper of the program."""
    check_program(program)
    if not isinstance(value, tuple):
        return False
    ladder = ladder_of(program)
    codes = ladder.without_limit()[0]
    if len(value) == 3 and value[0] == "from" and is_whole_within(value[1], 0, MOST_ROWS - 1):
        return _are_rows_up_to(program, value[1], value[2]) and ladder.told[ladder.place(value[1])] == codes
    if len(value) == 4 and value[0] == "never" and tells_short_rounds(program, value[1], value[2], value[3]):
        # The rows of the paper are the right ones, and all that there are.
        return codes not in ladder.told
    return False


def _are_rows_up_to(program, limit, rows):
    """Whether these are the rows of the limits up to this one, for all values of rows."""
    return isinstance(rows, tuple) and len(rows) == limit + 1 and tells_rows(program, rows)
