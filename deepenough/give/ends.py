"""How the runs of a program end, at all limits."""

from deepenough.base.checks import check_limit, check_program
from deepenough.base.words import is_limit, is_whole
from deepenough.errors import InvalidOperation, TooMany
from deepenough.give.forms import end_number, is_end, is_ends
from deepenough.give.short import short_choices, shortest
from deepenough.know.ladders import ladder_of
from deepenough.know.rounds import marked_limits, round_paper, tells_rounds
from deepenough.know.spelling import triple_of
from deepenough.run.runs import MOST_STEPS
from deepenough.run.steps import ENDINGS, walked


def outcome(program, limit):
    """What runs can do at a limit: the modes in which they can end left and failed, and whether one can go on."""
    check_program(program)
    check_limit(limit)
    ladder = ladder_of(program)
    return triple_of(ladder.board, started(program, ladder.codes_at(limit)))


def ends_at(program, end):
    """The set of all limits at which some run has this end."""
    check_program(program)
    _check_end(program, end)
    return _limits_with(program, 1 << end_number(end, program.modes))


def endless_at(program):
    """The set of all limits at which some run can go on for ever."""
    check_program(program)
    return _limits_with(program, ladder_of(program).board.endless)


def fails_at(program):
    """The set of all limits at which some run has failed."""
    check_program(program)
    board = ladder_of(program).board
    return _limits_with(program, board.full << board.width)


def surely_at(program, ends):
    """The set of all limits at which no run goes on for ever, and each end of a run is one of these."""
    check_program(program)
    if not is_ends(ends, program.modes):
        raise InvalidOperation("this is no ascending tuple of ends of the program")
    told = sum([1 << end_number(end, program.modes) for end in ends])
    codes = all_started(program)
    return marked_limits(ladder_of(program), [code | told == told for code in codes])


def outcomes(program):
    """All outcomes at limits other than None, with the sets of the limits that have them."""
    check_program(program)
    codes = all_started(program)
    ladder = ladder_of(program)
    found = {triple_of(ladder.board, code): code for code in codes}
    return {triple: marked_limits(ladder, [code == found[triple] for code in codes]) for triple in sorted(found)}


def end_paper(program, end):
    """Any end paper: a short run at the least limit that has the end, or how the rows come round without it."""
    check_program(program)
    _check_end(program, end)
    number = end_number(end, program.modes)
    for limit, code in enumerate(all_started(program)):
        if code >> number & 1:
            steps, start = shortest(program, limit, number)
            if steps > MOST_STEPS:
                raise TooMany(MOST_STEPS)
            return ("run", limit, start, short_choices(program, limit, start, number))
    return ("never", *round_paper(program))


def is_end_paper(program, end, value):
    """Whether the value is an end paper of the program and the end."""
    check_program(program)
    _check_end(program, end)
    if not isinstance(value, tuple) or len(value) != 4:
        return False
    if value[0] == "run":
        return value[1] is not None and end_of_run(program, value[1], value[2], value[3]) == end
    if value[0] != "never" or not tells_rounds(program, value[1], value[2], value[3]):
        return False
    # The rows of the paper are the right ones, and all that there are.
    number = end_number(end, program.modes)
    return not any([started(program, codes) >> number & 1 for codes in ladder_of(program).told])


def _check_end(program, end):
    """The error for an end."""
    if not is_end(end, program.modes):
        raise InvalidOperation("this is no end of the program")


def started(program, codes):
    """What a row tells of the main procedure, for all starts together."""
    code = 0
    for entry in program._plan.begun:
        code |= codes[entry]
    return code


def all_started(program):
    """The same for all rows until they have come round, with the error of those that do so too late."""
    ladder = ladder_of(program)
    ladder.check_round()
    return [started(program, codes) for codes in ladder.told]


def _limits_with(program, bits):
    """The set of all limits at which the main procedure, entered in some start, has one of these bits in its code."""
    codes = all_started(program)
    return marked_limits(ladder_of(program), [code & bits > 0 for code in codes])


def end_of_run(program, limit, start, choices):
    """The end of a run that is told by these values; None if it has not ended, and for all that tells no run."""
    if not is_limit(limit) or not is_whole(start) or start not in program.starts or not isinstance(choices, tuple):
        return None
    walk = walked(program._plan, limit, start, choices)
    if walk is None or walk[0][0] not in ENDINGS:
        return None
    return (ENDINGS[walk[0][0]], walk[0][1])
