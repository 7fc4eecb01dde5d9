"""Runs with as few steps as possible."""

from deepenough.base.checks import check_limit_up_to, check_program
from deepenough.errors import InvalidOperation, TooMany
from deepenough.give.costs import stairs_of
from deepenough.give.forms import end_number, end_of, is_end
from deepenough.run.runs import MOST_STEPS, Run

HIGHEST = 60


def least_steps(program, limit, end):
    """The least number of steps of a run at a limit with an end, or None."""
    _check(program, limit, end)
    found = shortest(program, limit, end_number(end, program.modes))
    return None if found is None else found[0]


def short_run(program, limit, end):
    """Any run at a limit with an end and with as few steps as possible, or None."""
    _check(program, limit, end)
    number = end_number(end, program.modes)
    found = shortest(program, limit, number)
    if found is None:
        return None
    if found[0] > MOST_STEPS:
        raise TooMany(MOST_STEPS)
    return Run.of(program, limit, found[1], short_choices(program, limit, found[1], number))


def steps_table(program, limit):
    """For all procedures and modes the least numbers of steps to their ends."""
    check_program(program)
    check_limit_up_to(limit, HIGHEST)
    table = stairs_of(program).table(limit)
    modes = program.modes
    return {pair: _told(ends, modes) for pair, ends in zip(program._plan.pairs, table)}


def shortest(program, limit, number):
    """The least number of steps of a run with an end that is told as a number, and its start; None if there is none."""
    plan = program._plan
    table = stairs_of(program).table(limit)
    found = [(steps, start) for start, entry in zip(plan.begins, plan.begun) for end, steps in table[entry]
             if end == number]
    return min(found, default=None)


def short_choices(program, limit, start, number):
    """The choices of a run from a start to an end that is told as a number, with as few steps as possible."""
    return tuple(stairs_of(program).steps_to(limit, start, number))


def _check(program, limit, end):
    """The errors for a program, a limit and an end."""
    check_program(program)
    check_limit_up_to(limit, HIGHEST)
    if not is_end(end, program.modes):
        raise InvalidOperation("this is no end of the program")


def _told(ends, modes):
    """The least numbers of steps by ends, which are told by numbers."""
    found = {end_of(number, modes): steps for number, steps in ends}
    return {end: found[end] for end in sorted(found)}
