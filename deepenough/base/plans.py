"""Programs in numbers, for all that has to be worked out quickly.

A node is a pair of a point and a mode, told as the number point * modes + mode. A way is what can be done at a node;
the ways of a node stand in the order of the options. An ask is a call that is made in one of its modes.
"""

GO = 0
CALL = 1
LEAVE = 2
FAIL = 3


class Record:
    """A call at a site. The procedures are told by their numbers."""

    def __init__(self, told_site, caller, callee, there, caught):
        self.told_site = told_site
        self.caller = caller
        self.callee = callee
        self.there = there
        self.caught = caught


class Part:
    """A procedure in numbers."""

    def __init__(self, procedure, numbers, width):
        self.label = procedure.called
        self.size = procedure.points
        self.records = _calls_of(procedure, numbers)
        self.ways, self.asks = _ways(procedure, self.records, width)

    def record_at(self, site):
        """The call at a site of the procedure, or None, for every value."""
        if not isinstance(site, tuple) or len(site) != 2 or site[0] != self.label:
            return None
        # True is equal to 1, but it is no index.
        if not isinstance(site[1], int) or isinstance(site[1], bool):
            return None
        return self.records.get(site[1])


class Plan:
    """A program in numbers. The numbers of the procedures are those of their names in ascending order."""

    def __init__(self, modes, starts, procedures):
        labels = sorted([procedure.called for procedure in procedures])
        self.width = modes
        self.begins = starts
        self.numbers = {label: number for number, label in enumerate(labels)}
        self.top = self.numbers[procedures[0].called]
        self.pairs = tuple([(label, mode) for label in labels for mode in range(modes)])
        # The numbers of the pairs of the main procedure and a start.
        self.begun = tuple([self.top * modes + start for start in starts])
        told = {procedure.called: procedure for procedure in procedures}
        self.parts = tuple([Part(told[label], self.numbers, modes) for label in labels])


def _calls_of(procedure, numbers):
    """The calls of a procedure by the indices of their moves."""
    caller = numbers[procedure.called]
    found = {}
    for index, move in enumerate(procedure.moves):
        if move[0] == "call":
            found[index] = Record((procedure.called, index), caller, numbers[move[3]], move[2], move[5])
    return found


def _ways(procedure, records, width):
    """The ways of each node, as pairs of a kind and a number, and the calls of the asks.

    The number is a node for a go, an ask for a call, and a mode for the others.
    """
    ways = [[] for _ in range(procedure.points * width)]
    asks = []
    for index, move in enumerate(procedure.moves):
        here = move[1] * width
        if move[0] == "go":
            for old, new in move[3]:
                ways[here + old].append((GO, move[2] * width + new))
        elif move[0] == "call":
            for mode in move[4]:
                ways[here + mode].append((CALL, len(asks)))
                asks.append(records[index])
        else:
            kind = LEAVE if move[0] == "leave" else FAIL
            for mode in move[2]:
                ways[here + mode].append((kind, mode))
    return tuple([tuple(told) for told in ways]), tuple(asks)
