"""Procedures and programs."""

from deepenough.base.forms import MOST_MODES, MOST_POINTS, highest_mode, is_mode_set, is_moves
from deepenough.base.plans import Plan
from deepenough.base.words import is_name, is_whole_within
from deepenough.errors import InvalidOperation, InvalidProgram, UnknownName, UnknownSite

MOST_PROCEDURES = 6


class Procedure:
    """A procedure. It never changes."""

    def __init__(self, called, points, *moves):
        if not is_name(called) or not is_whole_within(points, 1, MOST_POINTS) or not is_moves(moves, points):
            raise InvalidProgram("these are not the name, the points and the moves of a procedure")
        self._called = called
        self._points = points
        self._moves = moves
        self._highest = highest_mode(moves)
        self._callees = tuple([move[3] for move in moves if move[0] == "call"])

    @classmethod
    def of(cls, called, points, moves):
        """The procedure with a tuple of moves."""
        if not isinstance(moves, tuple):
            raise InvalidProgram("the moves of a procedure are a tuple")
        return cls(called, points, *moves)

    @property
    def called(self):
        """The name."""
        return self._called

    @property
    def points(self):
        """How many points there are."""
        return self._points

    @property
    def moves(self):
        """The moves, in their order."""
        return self._moves

    def fits(self, modes, names):
        """Whether it can stand in a program with so many modes and with procedures of these names."""
        return self._highest < modes and all([name in names for name in self._callees])

    def changed(self, points_by_index):
        """The same procedure, but that falls are caught elsewhere: by the indices of calls, a point or None."""
        moves = [(*move[:5], points_by_index[index]) if index in points_by_index else move
                 for index, move in enumerate(self._moves)]
        return Procedure(self._called, self._points, *moves)

    def told_by(self, names):
        """The same procedure, with all names as a dict from the elder ones tells them."""
        moves = [(*move[:3], names[move[3]], *move[4:]) if move[0] == "call" else move for move in self._moves]
        return Procedure(names[self._called], self._points, *moves)

    def __eq__(self, other):
        if not isinstance(other, Procedure) or self._called != other._called or self._points != other._points:
            return False
        return self._moves == other._moves

    def __len__(self):
        return len(self._moves)

    def __str__(self):
        return f"procedure {self._called}, {self._points} points, {len(self._moves)} moves"


class Memo:
    """What has been worked out about a program, so that it need not be worked out again."""

    def __init__(self):
        self.ladder = None
        self.stairs = None
        self.heights = None
        self.showings = {}


class Program:
    """A program. It never changes."""

    def __init__(self, modes, starts, *procedures):
        if not _is_program(modes, starts, procedures):
            raise InvalidProgram("these are not the modes, the starts and the procedures of a program")
        self._modes = modes
        self._starts = starts
        self._procedures = procedures
        self._places = {procedure.called: place for place, procedure in enumerate(procedures)}
        self._planned = None
        self._memo = Memo()

    @classmethod
    def of(cls, modes, starts, procedures):
        """The program with a tuple of procedures."""
        if not isinstance(procedures, tuple):
            raise InvalidProgram("the procedures of a program are a tuple")
        return cls(modes, starts, *procedures)

    @property
    def modes(self):
        """How many modes there are."""
        return self._modes

    @property
    def starts(self):
        """The modes in which a run can begin."""
        return self._starts

    @property
    def procedures(self):
        """The procedures, in their order."""
        return self._procedures

    @property
    def names(self):
        """The names of the procedures, in their order."""
        return tuple([procedure.called for procedure in self._procedures])

    @property
    def main(self):
        """The name of the main procedure."""
        return self._procedures[0].called

    @property
    def calls(self):
        """All sites, in the order of the procedures and of their moves."""
        return tuple([site for site, _ in _called_sites(self._procedures)])

    @property
    def catches(self):
        """The sites that catch, in the same order."""
        return tuple([site for site, move in _called_sites(self._procedures) if move[5] is not None])

    @property
    def _plan(self):
        """The program in numbers."""
        if self._planned is None:
            self._planned = Plan(self._modes, self._starts, self._procedures)
        return self._planned

    def has_site(self, value):
        """Whether the value is a site of the program."""
        if not isinstance(value, tuple) or len(value) != 2 or value[0] not in self:
            return False
        moves = self[value[0]].moves
        return is_whole_within(value[1], 0, len(moves) - 1) and moves[value[1]][0] == "call"

    def move(self, site):
        """The call at a site."""
        if not self.has_site(site):
            raise UnknownSite(site)
        return self[site[0]].moves[site[1]]

    def with_caught(self, site, caught):
        """The program in which falls at a site are caught at this point, or, for None, not at all."""
        if not self.has_site(site):
            raise UnknownSite(site)
        name, index = site
        if caught is not None and not is_whole_within(caught, 0, self[name].points - 1):
            raise InvalidOperation("what catches is a point of the procedure, or None")
        return self._replaced({name: {index: caught}})

    def without_catches(self, sites):
        """The program in which none of these sites catches."""
        if not isinstance(sites, tuple):
            raise UnknownSite(sites)
        points = {name: {} for name in self.names}
        for site in sites:
            if not self.has_site(site):
                raise UnknownSite(site)
            points[site[0]][site[1]] = None
        return self._replaced(points)

    def with_starts(self, starts):
        """The program with other starts."""
        if not is_mode_set(starts, self._modes):
            raise InvalidOperation("starts are a mode set of the program")
        return Program(self._modes, starts, *self._procedures)

    def with_procedure(self, procedure):
        """The program with a procedure in the place of the one with the same name, or as the last one."""
        if not isinstance(procedure, Procedure):
            raise InvalidOperation("only a procedure can be put into a program")
        procedures = list(self._procedures)
        if procedure.called in self:
            procedures[self._places[procedure.called]] = procedure
        else:
            procedures.append(procedure)
        return self._made(tuple(procedures))

    def without(self, name):
        """The program without a procedure."""
        if name not in self:
            raise UnknownName(name)
        return self._made(tuple([one for one in self._procedures if one.called != name]))

    def renamed(self, names):
        """The program with other names, told by a dict from some of the elder ones; calls follow."""
        if not isinstance(names, dict) or not all([name in self for name in names]):
            raise InvalidOperation("new names are told by a dict from names of procedures")
        told = {name: names.get(name, name) for name in self.names}
        if not all([is_name(name) for name in told.values()]):
            raise InvalidOperation("the new name of a procedure is a name")
        return self._made(tuple([procedure.told_by(told) for procedure in self._procedures]))

    def _replaced(self, points):
        """The program in which falls are caught at other points, by the names and the indices of the calls."""
        procedures = [one.changed(points[one.called]) if points.get(one.called) else one for one in self._procedures]
        return Program(self._modes, self._starts, *procedures)

    def _made(self, procedures):
        """The program with the same modes and starts, and with these procedures."""
        if not _is_program(self._modes, self._starts, procedures):
            raise InvalidOperation("the result is no program")
        return Program(self._modes, self._starts, *procedures)

    def __getitem__(self, name):
        if name not in self:
            raise UnknownName(name)
        return self._procedures[self._places[name]]

    def __contains__(self, value):
        return isinstance(value, str) and value in self._places

    def __iter__(self):
        raise TypeError("a program cannot be iterated over")

    def __len__(self):
        return len(self._procedures)

    def __eq__(self, other):
        if not isinstance(other, Program) or self._modes != other._modes or self._starts != other._starts:
            return False
        return self._procedures == other._procedures

    def __str__(self):
        return f"program of {len(self._procedures)} procedures, {self._modes} modes"


def _is_program(modes, starts, procedures):
    """Whether a program can be made of these."""
    if not is_whole_within(modes, 1, MOST_MODES) or not is_mode_set(starts, modes):
        return False
    if not 1 <= len(procedures) <= MOST_PROCEDURES:
        return False
    if not all([isinstance(procedure, Procedure) for procedure in procedures]):
        return False
    names = {procedure.called: True for procedure in procedures}
    return len(names) == len(procedures) and all([procedure.fits(modes, names) for procedure in procedures])


def _called_sites(procedures):
    """All sites with their calls, as pairs, in the order of the procedures and of their moves."""
    return [((procedure.called, index), move) for procedure in procedures
            for index, move in enumerate(procedure.moves) if move[0] == "call"]
