"""The texts of programs."""

from deepenough.base.checks import check_program
from deepenough.base.programs import Procedure, Program
from deepenough.base.words import is_name
from deepenough.errors import InvalidProgram, ParseError

DIGITS = "0123456789"

# What a line is, told as the first part of what has been read of it.
HEAD = "modes"
PROCEDURE = "procedure"


def write_program(program):
    """The text of a program."""
    check_program(program)
    lines = [f"modes {program.modes} starts {_digits(program.starts)}"]
    for procedure in program.procedures:
        lines.append(f"procedure {procedure.called} {procedure.points}")
        lines.extend([_line(move) for move in procedure.moves])
    return "\n".join(lines)


def read_program(text):
    """The program of a text."""
    if not isinstance(text, str):
        raise InvalidProgram("the text of a program is a string")
    modes, starts, blocks = 0, (), []
    for at, line in enumerate(text.split("\n")):
        told = _read_line(line)
        if not _can_stand(told, at, len(blocks)):
            raise ParseError(at)
        if told[0] == HEAD:
            modes, starts = told[1], told[2]
        elif told[0] == PROCEDURE:
            blocks.append([told[1], told[2]])
        else:
            blocks[-1].append(told)
    return Program.of(modes, starts, tuple([Procedure.of(block[0], block[1], tuple(block[2:])) for block in blocks]))


def _can_stand(told, at, many):
    """Whether what has been read of a line can stand at an index, with so many procedures ahead of it."""
    if told is None:
        return False
    if told[0] == HEAD or at == 0:
        return told[0] == HEAD and at == 0
    return told[0] == PROCEDURE or many > 0


def _digits(numbers):
    """Digits with one blank between them."""
    return " ".join([str(number) for number in numbers])


def _line(move):
    """The line of a move."""
    if move[0] == "go":
        pairs = " ".join([f"{old}{new}" for old, new in move[3]])
        return f"  go {move[1]} {move[2]} by {pairs}"
    if move[0] == "call":
        caught = "" if move[5] is None else f" caught {move[5]}"
        return f"  call {move[1]} {move[2]} {move[3]} in {_digits(move[4])}{caught}"
    return f"  {move[0]} {move[1]} in {_digits(move[2])}"


def _read_line(line):
    """What a line tells: the head, a procedure or a move as a tuple; None if it has none of these forms."""
    words = line.split(" ")
    if words[:2] == ["", ""] and len(words) > 2:
        return _read_move(words[2:])
    if words[0] == "modes" and len(words) > 3 and _are_digits([words[1]]) and words[2] == "starts":
        if _are_digits(words[3:]):
            return (HEAD, int(words[1]), _numbers(words[3:]))
    if words[0] == "procedure" and len(words) == 3 and is_name(words[1]) and _are_digits([words[2]]):
        return (PROCEDURE, words[1], int(words[2]))
    return None


def _read_move(words):
    """The move that the words of a line tell, or None."""
    if words[0] == "go" and len(words) > 4 and _are_digits(words[1:3]) and words[3] == "by":
        if all([len(word) == 2 and _are_digits([word[0], word[1]]) for word in words[4:]]):
            pairs = [(int(word[0]), int(word[1])) for word in words[4:]]
            return ("go", int(words[1]), int(words[2]), tuple(pairs))
    if (words[0] == "leave" or words[0] == "fail") and len(words) > 3 and words[2] == "in":
        if _are_digits([words[1], *words[3:]]):
            return (words[0], int(words[1]), _numbers(words[3:]))
    if words[0] == "call" and len(words) > 5:
        return _read_call(words)
    return None


def _read_call(words):
    """The call that at least six words of a line tell, or None."""
    if not _are_digits(words[1:3]) or not is_name(words[3]) or words[4] != "in":
        return None
    modes, caught = words[5:], None
    if len(modes) > 2 and modes[-2] == "caught" and _are_digits([modes[-1]]):
        modes, caught = modes[:-2], int(modes[-1])
    if not _are_digits(modes):
        return None
    return ("call", int(words[1]), int(words[2]), words[3], _numbers(modes), caught)


def _are_digits(words):
    """Whether each word is one digit."""
    return all([len(word) == 1 and word in DIGITS for word in words])


def _numbers(words):
    """The numbers of digits."""
    return tuple([int(word) for word in words])
