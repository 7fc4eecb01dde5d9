"""Situations, their options, and runs at a limit."""

from deepenough.base.checks import check_limit, check_program
from deepenough.base.words import is_whole, is_whole_within
from deepenough.errors import InvalidNumber, InvalidOperation, InvalidRun, TooMany
from deepenough.run.steps import (ENDINGS, first_state, is_refused, situation_behind, situation_of, state_of, stepped,
                                  walked, ways_at)

MOST_STEPS = 1000


def is_situation(program, value):
    """Whether the value is a situation by its form."""
    check_program(program)
    return state_of(program._plan, value) is not None


def options(program, limit, situation):
    """The tuple of the situations behind one step."""
    check_program(program)
    check_limit(limit)
    plan = program._plan
    state = state_of(plan, situation)
    if state is None:
        raise InvalidOperation("this is no situation of the program")
    if limit is not None and state[3] > limit:
        raise InvalidOperation("more calls are open in the situation than the limit lets")
    states = [stepped(plan, limit, state, way) for way in ways_at(plan, state)]
    return tuple([situation_behind(plan, option, situation[1]) for option in states])


class Run:
    """A run at a limit. It never changes."""

    def __init__(self, program, limit, start, *choices):
        check_program(program)
        check_limit(limit)
        walk = None
        if is_whole(start) and start in program.starts:
            walk = walked(program._plan, limit, start, choices)
        if walk is None:
            raise InvalidRun("the run does not begin in a start, or a choice is the index of no option")
        if len(choices) > MOST_STEPS:
            raise TooMany(MOST_STEPS)
        self._program = program
        self._bound = limit
        self._start = start
        self._choices = choices
        self._state, self._deepest, self._refused = walk
        self._situations = None

    @classmethod
    def of(cls, program, limit, start, choices):
        """The run with a tuple of choices."""
        if not isinstance(choices, tuple):
            # None is never a choice: so the errors come in the order in which those of a run do.
            return cls(program, limit, start, None)
        return cls(program, limit, start, *choices)

    @property
    def program(self):
        """The program."""
        return self._program

    @property
    def bound(self):
        """The limit."""
        return self._bound

    @property
    def start(self):
        """The mode in which the run begins."""
        return self._start

    @property
    def choices(self):
        """The indices of the options that were taken."""
        return self._choices

    @property
    def situation(self):
        """The last situation."""
        return situation_of(self._program._plan, self._state)

    @property
    def situations(self):
        """All situations, the first one too."""
        if self._situations is None:
            self._situations = _told(self._program._plan, self._bound, self._start, self._choices)
        return self._situations

    @property
    def mode(self):
        """The mode of the last situation."""
        part, node = self._state[:2]
        return node if part < 0 else node % self._program.modes

    @property
    def ended(self):
        """How the run has ended, or None."""
        return ENDINGS.get(self._state[0])

    @property
    def deepest(self):
        """The greatest number of calls that were open at the same time."""
        return self._deepest

    @property
    def refused(self):
        """How many steps were a call that could not enter, for the limit."""
        return self._refused

    def back(self, *, many=1):
        """The run without its last steps."""
        if not is_whole_within(many, 0, len(self._choices)):
            raise InvalidNumber(many)
        choices = self._choices[:len(self._choices) - many]
        return Run(self._program, self._bound, self._start, *choices)

    def at(self, limit):
        """The run with the same start and choices at another limit."""
        check_limit(limit)
        if walked(self._program._plan, limit, self._start, self._choices) is None:
            raise InvalidOperation("some choice is the index of no option at this limit")
        return Run(self._program, limit, self._start, *self._choices)

    def __add__(self, index):
        plan = self._program._plan
        ways = ways_at(plan, self._state)
        if not is_whole_within(index, 0, len(ways) - 1):
            raise InvalidOperation("this is the index of no option")
        if len(self._choices) >= MOST_STEPS:
            raise TooMany(MOST_STEPS)
        longer = Run(self._program, self._bound, self._start)
        longer._choices = (*self._choices, index)
        longer._state = stepped(plan, self._bound, self._state, ways[index])
        longer._deepest = max(self._deepest, longer._state[3])
        longer._refused = self._refused + is_refused(self._state, ways[index], self._bound)
        return longer

    def __len__(self):
        return len(self._choices)

    def __eq__(self, other):
        if not isinstance(other, Run) or self._program != other._program or self._bound != other._bound:
            return False
        return self._start == other._start and self._choices == other._choices

    def __str__(self):
        return f"run of {len(self._choices)} steps, {self._state[3]} open calls"


def _told(plan, limit, start, choices):
    """The tuple of the situations of a run."""
    state = first_state(plan, start)
    situations = [situation_behind(plan, state, ())]
    for choice in choices:
        state = stepped(plan, limit, state, ways_at(plan, state)[choice])
        situations.append(situation_behind(plan, state, situations[-1][1]))
    return tuple(situations)
