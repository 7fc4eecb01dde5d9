"""The errors for what nearly every function is passed."""

from deepenough.base.programs import Program
from deepenough.base.words import is_limit, is_whole_within
from deepenough.errors import InvalidLimit, InvalidProgram


def check_program(program):
    """The error for a program."""
    if not isinstance(program, Program):
        raise InvalidProgram("this is no program")


def check_limit(limit):
    """The error for a limit."""
    if not is_limit(limit):
        raise InvalidLimit("this is no limit")


def check_limit_up_to(limit, most):
    """The error for a limit that is None or not greater than the most."""
    if limit is not None and not is_whole_within(limit, 0, most):
        raise InvalidLimit("this is no limit, or one that is too great here")
