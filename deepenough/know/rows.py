"""Rows: what calls can do that have been entered with so many calls more that can be opened."""

from deepenough.base.checks import check_limit, check_program
from deepenough.base.forms import is_mode_set
from deepenough.errors import InvalidModes, InvalidRow, UnknownName
from deepenough.know.ladders import ladder_of
from deepenough.know.spelling import codes_told, spelled


def row(program, limit):
    """The row of a limit."""
    check_program(program)
    check_limit(limit)
    ladder = ladder_of(program)
    return spelled(ladder.board, ladder.codes_at(limit))


def is_row(program, value):
    """Whether the value is a row of the program by its form."""
    check_program(program)
    return codes_told(ladder_of(program).board, value) is not None


def next_row(program, value):
    """The row that follows from a row."""
    check_program(program)
    board = ladder_of(program).board
    codes = codes_told(board, value)
    if codes is None:
        raise InvalidRow("this is no row of the program")
    return spelled(board, board.codes_of(board.worked_out(codes)))


def reached(program, limit, name, modes):
    """The pairs of a point and a mode to which a procedure can come that is entered in one of these modes."""
    check_program(program)
    check_limit(limit)
    if name not in program:
        raise UnknownName(name)
    if not is_mode_set(modes, program.modes):
        raise InvalidModes("this is no mode set of the program")
    ladder = ladder_of(program)
    board, plan = ladder.board, program._plan
    found = ladder.values_at(limit)
    number = plan.numbers[name]
    come = 0
    for mode in modes:
        come |= found[number * plan.width + mode]
    nodes = range(plan.parts[number].size * plan.width)
    return tuple([(node // plan.width, node % plan.width) for node in nodes
                  if come >> board.stood_from + node & 1])
