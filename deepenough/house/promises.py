"""Promises about a program."""

from deepenough.ask.enough import enough
from deepenough.ask.signs import is_sign, sign_limits
from deepenough.base.limits import Limits
from deepenough.give.ends import endless_at, fails_at


def is_promise(program, value):
    """Whether a tuple is a promise about the program."""
    if len(value) == 2:
        return (value[0] == "safe" or value[0] == "ends" or value[0] == "enough") and isinstance(value[1], Limits)
    if len(value) != 3 or not isinstance(value[2], Limits):
        return False
    return (value[0] == "shown" or value[0] == "hidden") and is_sign(program, value[1])


def is_kept(program, value):
    """Whether a tuple is a promise about the program and true, with the errors of what it asks."""
    if not is_promise(program, value):
        return False
    word, limits = value[0], value[-1]
    if word == "safe":
        return not limits & fails_at(program)
    if word == "ends":
        return not limits & endless_at(program)
    if word == "enough":
        return limits.is_within(enough(program))
    found = sign_limits(program, value[1])
    return limits.is_within(found) if word == "shown" else not limits & found
