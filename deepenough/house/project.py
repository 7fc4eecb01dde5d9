"""A project: a program that changes, and promises about it that stay kept."""

from deepenough.base.checks import check_program
from deepenough.base.words import is_name, is_whole_from
from deepenough.errors import InvalidNumber, InvalidOperation, NothingToUndo, Refused, UnknownName
from deepenough.house.promises import is_kept, is_promise


class Trial:
    """A block behind which a project is as it was at its beginning."""

    def __init__(self, project, marks):
        self.project = project
        self.marks = marks

    def __enter__(self):
        self.project._begin()
        return self.project

    def __exit__(self, kind, value, trace):
        self.marks.append(1)


class Project:
    """A program with promises about it.

    A story is the tuple of all states, each with the name of the call that led to it. A level is a pair of a story and
    of the number of calls in it that are not undone; it never changes. There is one level for what is around all
    blocks, and one more for each block. A block that ends only leaves a mark, for nothing can go wrong then: as many of
    the last levels as there are marks do not count any more.
    """

    def __init__(self, program):
        check_program(program)
        self._levels = [(((None, program, {}),), 0)]
        self._marks = []

    @property
    def program(self):
        """The program."""
        return self._now()[1]

    @property
    def promises(self):
        """The promises by their names."""
        found = self._now()[2]
        return {name: found[name] for name in sorted(found)}

    @property
    def deeds(self):
        """The names of the calls that changed the project and that are not undone."""
        story, done = self._level()
        return tuple([deed for deed, _, _ in story[1:done + 1]])

    def promise(self, name, *parts):
        """Make the promise that has these parts."""
        if not is_name(name) or name in self:
            raise InvalidOperation("this is no name for a promise, or one that a promise has")
        program = self.program
        if not is_promise(program, parts):
            raise InvalidOperation("this is no promise about the program")
        if not is_kept(program, parts):
            raise Refused(name)
        found = self.promises
        found[name] = parts
        self._go_on("promise", program, found)

    def forget(self, name):
        """Take a promise back."""
        if name not in self:
            raise UnknownName(name)
        found = self.promises
        del found[name]
        self._go_on("forget", self.program, found)

    def put(self, procedure):
        """Put a procedure in the place of the one with the same name, or behind the last one."""
        self._change("put", self.program.with_procedure(procedure))

    def drop(self, name):
        """Take a procedure out of the program."""
        self._change("drop", self.program.without(name))

    def catch(self, site, point):
        """Let falls at a site be caught at another point, or, for None, not at all."""
        self._change("catch", self.program.with_caught(site, point))

    def bare(self, sites):
        """Let no fall be caught at these sites."""
        self._change("bare", self.program.without_catches(sites))

    def restart(self, modes):
        """Give the program other starts."""
        self._change("restart", self.program.with_starts(modes))

    def undo(self, *, many=1):
        """Take back so many calls; how many can still be taken back."""
        story, done = self._level()
        if not is_whole_from(many, 0):
            raise InvalidNumber(many)
        if many > done:
            raise NothingToUndo(many)
        self._move_to((story, done - many))
        return done - many

    def redo(self, *, many=1):
        """Do so many calls again that were taken back; how many can still be taken back."""
        story, done = self._level()
        if not is_whole_from(many, 0):
            raise InvalidNumber(many)
        if many > len(story) - 1 - done:
            raise NothingToUndo(many)
        self._move_to((story, done + many))
        return done + many

    def twin(self):
        """An independent copy, which can take back and do again the same."""
        other = Project(self.program)
        other._move_to(self._level())
        return other

    def trial(self):
        """A block behind which the project is as it was at its beginning."""
        return Trial(self, self._marks)

    def during(self, call):
        """What a call returns within such a block."""
        with self.trial() as same:
            return call(same)

    def _begin(self):
        """Begin a block, with a level of its own."""
        level = self._level()
        self._move_to(level)
        self._levels.append(level)

    def _level(self):
        """The level that counts."""
        return self._levels[-1 - len(self._marks)]

    def _move_to(self, level):
        """Put another level in the place of the one that counts, and forget those that do not."""
        self._levels = [*self._levels[:len(self._levels) - len(self._marks) - 1], level]
        self._marks.clear()

    def _now(self):
        """The name of the last call, the program and the promises as they are now."""
        story, done = self._level()
        return story[done]

    def _change(self, deed, program):
        """Go on with another program, about which all promises have to be kept."""
        found = self.promises
        for name, parts in found.items():
            if not is_kept(program, parts):
                raise Refused(name)
        self._go_on(deed, program, found)

    def _go_on(self, deed, program, promises):
        """Go on with a program and promises; what was taken back cannot be done again."""
        story, done = self._level()
        self._move_to(((*story[:done + 1], (deed, program, promises)), done + 1))

    def __getitem__(self, name):
        if name not in self:
            raise UnknownName(name)
        return self._now()[2][name]

    def __contains__(self, value):
        return isinstance(value, str) and value in self._now()[2]

    def __iter__(self):
        raise TypeError("a project cannot be iterated over")

    def __len__(self):
        return len(self._now()[2])

    def __eq__(self, other):
        if not isinstance(other, Project) or self.program != other.program:
            return False
        return self.promises == other.promises

    def __str__(self):
        return f"project with {len(self._now()[2])} promises"
