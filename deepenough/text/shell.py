"""A shell: programs with names, and commands about them."""

from deepenough.ask.depths import most_open
from deepenough.ask.enough import enough
from deepenough.ask.signs import shows, sign_limits
from deepenough.compare.catches import idle_catches
from deepenough.compare.programs import parting_limit, same_limits
from deepenough.errors import InvalidCommand, InvalidOperation, TooMany, UnknownName
from deepenough.give.ends import outcome
from deepenough.know.rounds import Rounds
from deepenough.text.commands import read_command
from deepenough.text.texts import read_program, write_program

MOST_PROGRAMS = 8


class Shell:
    """Programs with names, and the commands that made them."""

    def __init__(self):
        self._held = {}
        self._done = []

    @classmethod
    def replayed(cls, script):
        """The shell in which the commands of a tuple have been run."""
        if not isinstance(script, tuple):
            raise InvalidCommand("a script is a tuple of commands")
        shell = cls()
        for command in script:
            shell.run(command)
        return shell

    @property
    def names(self):
        """The names of the programs, ascending."""
        return tuple(sorted(self._held))

    @property
    def programs(self):
        """The programs by their names."""
        return {name: self._held[name] for name in sorted(self._held)}

    @property
    def script(self):
        """All commands that changed the shell, in their order."""
        return tuple(self._done)

    def run(self, command):
        """The reply to a command."""
        told = read_command(command)
        if told is None:
            raise InvalidCommand("this is no command by its words")
        word, names, fresh, others = told
        for name in names:
            if name not in self._held:
                raise UnknownName(name)
        if fresh in self._held:
            raise InvalidOperation("there is a program with this name")
        programs = [self._held[name] for name in names]
        if word in QUERIES:
            query = QUERIES[word]
            return query(programs, others)
        reply = None
        if word == "new":
            reply = self._add(fresh, read_program(others[0]))
        elif word == "copy":
            self._add(fresh, programs[0])
        elif word == "drop":
            del self._held[names[0]]
        else:
            change = CHANGES[word]
            self._held[names[0]] = change(programs[0], others)
        self._done.append(command)
        return reply

    def _add(self, name, program):
        """Keep one more program; its text in short."""
        if len(self._held) == MOST_PROGRAMS:
            raise TooMany(MOST_PROGRAMS)
        self._held[name] = program
        return str(program)

    def __call__(self, command):
        return self.run(command)

    def __contains__(self, value):
        return isinstance(value, str) and value in self._held

    def __len__(self):
        return len(self._held)

    def __eq__(self, other):
        return isinstance(other, Shell) and self._held == other._held

    def __str__(self):
        return f"shell with {len(self._held)} programs"


def _caught(program, others):
    return program.with_caught(others[0], others[1])


def _bared(program, others):
    return program.without_catches(others[0])


def _started(program, others):
    return program.with_starts(others[0])


def _text(programs, others):
    return write_program(programs[0])


def _round(programs, others):
    rounds = Rounds(programs[0])
    return (rounds.first, rounds.period)


def _outcome(programs, others):
    return outcome(programs[0], others[0])


def _most_open(programs, others):
    return most_open(programs[0], others[0])


def _shown(programs, others):
    return shows(programs[0], others[0], others[1])


def _sign_limits(programs, others):
    return str(sign_limits(programs[0], others[0]))


def _enough(programs, others):
    return str(enough(programs[0]))


def _idle(programs, others):
    return idle_catches(programs[0])


def _same(programs, others):
    return str(same_limits(programs[0], programs[1]))


def _parting(programs, others):
    return parting_limit(programs[0], programs[1])


# What the commands do that change a program, and those that only ask.
CHANGES = {"catch": _caught, "bare": _bared, "start": _started}
QUERIES = {"text": _text, "round": _round, "outcome": _outcome, "open": _most_open, "shows": _shown,
           "limits": _sign_limits, "enough": _enough, "idle": _idle, "same": _same, "parts": _parting}
