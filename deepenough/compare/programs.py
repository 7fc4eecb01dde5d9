"""What two programs do at all limits, compared."""

from math import lcm

from deepenough.base.checks import check_program
from deepenough.base.limits import LARGEST
from deepenough.base.words import is_whole, is_whole_within
from deepenough.errors import InvalidOperation, TooMany
from deepenough.know.ladders import MOST_ROWS, ladder_of
from deepenough.know.rounds import rows_below, set_of_marks, tells_short_rounds

# By then two programs have parted if they ever do: first is at most 400, and the common period at most 2000.
LATEST = 2400


def same_limits(one, other):
    """The set of all limits at which two programs do the same."""
    low, span = _common_round(one, other)
    both = _both_doings(one, other, low + span)
    return set_of_marks(low, span, [here == there for here, there in both])


def less_limits(one, other):
    """The set of all limits at which the first of two programs does no more than the second one."""
    low, span = _common_round(one, other)
    both = _both_doings(one, other, low + span)
    return set_of_marks(low, span, [here & ~there == 0 for here, there in both])


def are_alike(one, other):
    """Whether two programs do the same at all limits and without one."""
    if parting_limit(one, other) is not None:
        return False
    here, there = ladder_of(one).codes_at(None), ladder_of(other).codes_at(None)
    return all([here[entry] == there[like] for entry, like in zip(one._plan.begun, other._plan.begun)])


def parting_limit(one, other):
    """The least limit at which two programs do not do the same, or None."""
    low, span = _common_round(one, other)
    for limit, (here, there) in enumerate(_both_doings(one, other, low + span)):
        if here != there:
            return limit
    return None


def compare_paper(one, other):
    """Any compare paper: with the least limit and then the least start, or else with the rows of both."""
    low, span = _common_round(one, other)
    limit = parting_limit(one, other)
    if limit is not None:
        return ("apart", limit, [start for start in one.starts if _part(one, other, limit, start)][0])
    if low + span > MOST_ROWS:
        raise TooMany(MOST_ROWS)
    return ("same", low, span, rows_below(one, low + span), rows_below(other, low + span))


def is_compare_paper(one, other, value):
    """Whether the value is a compare paper of two programs."""
    _check(one, other)
    if not isinstance(value, tuple):
        return False
    if len(value) == 3 and value[0] == "apart":
        if not is_whole_within(value[1], 0, LATEST) or not is_whole(value[2]) or value[2] not in one.starts:
            return False
        return _part(one, other, value[1], value[2])
    if len(value) != 5 or value[0] != "same":
        return False
    _, first, period, rows, others = value
    if not tells_short_rounds(one, first, period, rows) or not tells_short_rounds(other, first, period, others):
        return False
    return all([here == there for here, there in _both_doings(one, other, first + period)])


def _check(one, other):
    """The errors for two programs that are compared."""
    check_program(one)
    check_program(other)
    if one.modes != other.modes or one.starts != other.starts:
        raise InvalidOperation("the programs have unlike numbers of modes, or unlike starts")


def _common_round(one, other):
    """The least first and period by which the rows of both programs come round, with all errors."""
    _check(one, other)
    here, there = ladder_of(one), ladder_of(other)
    here.check_round()
    there.check_round()
    span = lcm(here.span, there.span)
    if span > LARGEST:
        raise TooMany(LARGEST)
    return max(here.low, there.low), span


def _both_doings(one, other, many):
    """The pairs of what two programs do at each of so many limits from 0 on."""
    return list(zip(_doings(one, many), _doings(other, many)))


def _doings(program, many):
    """What a program whose rows are known to come round does at each of so many limits from 0 on."""
    ladder = ladder_of(program)
    size, begun = ladder.board.called_from, program._plan.begun
    found = [_joined(codes, begun, size) for codes in ladder.told]
    times = (many - ladder.low) // ladder.span + 1
    return (found[:ladder.low] + found[ladder.low:] * times)[:many]


def _joined(codes, begun, size):
    """The codes of some pairs in one number, each with so many bits: what the main procedure does in all starts."""
    found = 0
    for entry in begun:
        found = found << size | codes[entry]
    return found


def _part(one, other, limit, start):
    """Whether the main procedures do not do the same at a limit in a start."""
    return _code_at(one, limit, start) != _code_at(other, limit, start)


def _code_at(program, limit, start):
    """What the main procedure does at a limit in a start, however late the rows come round."""
    ladder, plan = ladder_of(program), program._plan
    ladder.climb(limit)
    return ladder.told[ladder.place(limit)][plan.top * plan.width + start]
