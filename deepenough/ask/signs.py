"""Signs: what the situations and the steps of runs show."""

from deepenough.ask.showings import showing_of
from deepenough.base.checks import check_limit, check_program
from deepenough.base.words import is_whole_within
from deepenough.errors import InvalidSign
from deepenough.know.rounds import marked_limits
from deepenough.know.spelling import pairs_of


def is_sign(program, value):
    """Whether the value is a sign of the program."""
    check_program(program)
    if not isinstance(value, tuple) or len(value) == 0:
        return False
    if value[0] == "place":
        return len(value) == 4 and _is_place(program, value[1], value[2], value[3])
    if value[0] == "enter" or value[0] == "over":
        return len(value) == 2 and program.has_site(value[1])
    if value[0] == "catch":
        return len(value) == 2 and program.has_site(value[1]) and program.move(value[1])[5] is not None
    return value[0] == "full" and len(value) == 1


def truths(program, limit, sign):
    """The ascending tuple of the truths of a sign at a number, or without a limit."""
    check_program(program)
    check_limit(limit)
    check_sign(program, sign)
    return pairs_of(program._plan, showing_of(program, sign).truths_at(limit))


def shows(program, limit, sign):
    """Whether the program shows a sign at a limit."""
    check_program(program)
    check_limit(limit)
    check_sign(program, sign)
    return showing_of(program, sign).truths_at(limit) & starting(program) > 0


def sign_limits(program, sign):
    """The set of all limits at which the program shows a sign."""
    check_program(program)
    check_sign(program, sign)
    showing = showing_of(program, sign)
    showing.check_round()
    begun = starting(program)
    return marked_limits(showing, [found & begun > 0 for found in showing.told])


def _is_place(program, name, point, mode):
    """Whether these are a procedure of the program, a point of it, and a mode."""
    if name not in program or not is_whole_within(point, 0, program[name].points - 1):
        return False
    return is_whole_within(mode, 0, program.modes - 1)


def check_sign(program, sign):
    """The error for a sign."""
    if not is_sign(program, sign):
        raise InvalidSign("this is no sign of the program")


def starting(program):
    """The main procedure in each start, as truths are told."""
    return sum([1 << entry for entry in program._plan.begun])
