"""How what a program does changes from limit to limit."""

from deepenough.base.checks import check_program
from deepenough.base.limits import Limits
from deepenough.base.programs import MOST_PROCEDURES, Procedure, Program
from deepenough.base.words import is_whole_from
from deepenough.errors import InvalidLimit, InvalidOperation
from deepenough.give.ends import all_started
from deepenough.know.ladders import ladder_of

LETTERS = "abcdefghijklmnopqrstuvwxyz"


def row_classes(program):
    """The tuple of the sets of limits with equal rows, in the order of their least members."""
    check_program(program)
    ladder = ladder_of(program)
    ladder.check_round()
    low, span = ladder.low, ladder.span
    early = [Limits.only((number,)) for number in range(low)]
    return (*early, *[Limits((), low, span, (number % span,)) for number in range(low, low + span)])


def next_change(program, limit):
    """The least greater limit at which the outcome is unlike that at a limit, or None."""
    check_program(program)
    if not is_whole_from(limit, 0):
        raise InvalidLimit("this is no limit, or none at all")
    codes = all_started(program)
    ladder = ladder_of(program)
    here = ladder.place(limit)
    # Behind the last row there is again the first one of those that come round.
    behind = [*codes[here + 1:], *codes[ladder.low:]]
    for more, code in enumerate(behind, start=1):
        if code != codes[here]:
            return limit + more
    return None


def stays_from(program):
    """The least limit from which on the outcome is the same at all limits, or None."""
    check_program(program)
    codes = all_started(program)
    unlike = [limit for limit, code in enumerate(codes) if code != codes[-1]]
    least = unlike[-1] + 1 if unlike else 0
    return least if least <= ladder_of(program).low else None


def wrapped(program):
    """The program with one more procedure as the main one, which calls the elder main procedure."""
    check_program(program)
    if len(program) == MOST_PROCEDURES:
        raise InvalidOperation("there are as many procedures as there can be")
    called = [letter for letter in LETTERS if letter not in program][0]
    every = tuple(range(program.modes))
    main = Procedure(called, 2, ("call", 0, 1, program.main, every, None), ("leave", 1, every))
    return Program.of(program.modes, program.starts, (main, *program.procedures))
