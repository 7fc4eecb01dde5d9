"""What one row follows from, in numbers.

A code is what a row tells of a procedure and a mode: a bit for each mode in which it can be left, then one for each
mode in which it can fail, and one for whether it can go on for ever. A value is a code with more bits ahead of it:
which procedures and modes are called, to which nodes the procedure comes, and which asks it makes.
"""

from deepenough.base.plans import CALL, GO, LEAVE


class Chart:
    """One procedure: what follows from codes.

    `static` has what lies behind each node by goes alone. Each ask is told by its bit, by the number of the procedure
    and the mode that it enters, and by two tables: by the modes in which what it has entered is left, and in which it
    fails, they tell what can be reached then.
    """

    def __init__(self, part, board, static, asks):
        self.part = part
        self.board = board
        self.static = static
        self.asks = asks
        self.entries = sorted({entry for _, entry, _, _ in asks})
        self.known = {}

    def bared(self, sites):
        """The chart of the same procedure, but that its calls at these sites do not catch."""
        asks = [(bit, entry, left, self.board.uncaught if record.told_site in sites else failed)
                for record, (bit, entry, left, failed) in zip(self.part.asks, self.asks)]
        return Chart(self.part, self.board, self.static, asks)

    def behind(self, codes):
        """The same as `worked_out`, kept: the procedure follows from a few codes only, which come again."""
        asked = tuple([codes[entry] for entry in self.entries])
        if asked not in self.known:
            self.known[asked] = self.worked_out(codes)
        return self.known[asked]

    def worked_out(self, codes):
        """The values of the procedure in each mode, if calls do what the codes tell."""
        full, width, endless = self.board.full, self.board.width, self.board.endless
        behind = []
        for _, entry, left, failed in self.asks:
            code = codes[entry]
            behind.append(left[code & full] | failed[code >> width & full] | code & endless)
        # Behind an ask there lies also what lies behind the asks to which it leads.
        for number, (bit, _, _, _) in enumerate(self.asks):
            value = behind[number]
            behind = [one | value if one & bit else one for one in behind]
        return self._entered(behind)

    def _entered(self, behind):
        """The values in each mode, by all that lies behind each ask."""
        # An ask that leads to itself again can be made for ever.
        again = 0
        for (bit, _, _, _), more in zip(self.asks, behind):
            again |= more & bit
        found = []
        for value in self.static[:self.board.width]:
            reached_value = value
            for (bit, _, _, _), more in zip(self.asks, behind):
                if value & bit:
                    reached_value |= more
            if reached_value & again:
                reached_value |= self.board.endless
            found.append(reached_value)
        return found


class Board:
    """All procedures: what follows from a row."""

    def __init__(self, plan):
        self.plan = plan
        self.width = plan.width
        self.full = (1 << plan.width) - 1
        self.endless = 1 << 2 * plan.width
        self.code = 2 * self.endless - 1
        # Where the fields of a value begin that stand ahead of its code; the asks stand ahead of the nodes.
        self.called_from = 2 * plan.width + 1
        self.stood_from = self.called_from + len(plan.pairs)
        self.mode_sets = _mode_sets(plan.width)
        # A fall that is not caught is a fall of the caller in the same mode.
        self.uncaught = [modes << plan.width for modes in range(1 << plan.width)]
        self.charts = [_chart(part, self) for part in plan.parts]

    def worked_out(self, codes):
        """The values of all procedures and modes, if calls do what the codes tell."""
        found = []
        for chart in self.charts:
            found.extend(chart.worked_out(codes))
        return tuple(found)

    def codes_of(self, found):
        """The codes in values."""
        code = self.code
        return tuple([value & code for value in found])

    def refusing(self):
        """The codes of calls that fail at once, in the mode in which they are made."""
        return tuple([1 << self.width + mode for _, mode in self.plan.pairs])


def _mode_sets(width):
    """The ascending tuples of modes, by numbers that have a bit for each mode."""
    found = [()]
    for mode in range(width):
        found = found + [(*modes, mode) for modes in found]
    return found


def _chart(part, board):
    """The chart of a procedure."""
    static = _closed(part, _own_values(part, board), board)
    return Chart(part, board, static, _asks(part, board, static))


def _asked_from(part, board):
    """Where the field of the asks begins in a value of a procedure."""
    return board.stood_from + part.size * board.width


def _own_values(part, board):
    """What is done at each node: its value without what lies behind it."""
    width, asked_from = board.width, _asked_from(part, board)
    found = []
    for node, ways in enumerate(part.ways):
        value = 1 << board.stood_from + node
        mode = node % width
        for kind, number in ways:
            if kind == CALL:
                entry = part.asks[number].callee * width + mode
                value |= 1 << asked_from + number | 1 << board.called_from + entry
            elif kind != GO:
                value |= 1 << (mode if kind == LEAVE else width + mode)
        found.append(value)
    return found


def _closed(part, own, board):
    """The values of all nodes, each with what can be reached from it by goes alone."""
    goes = [(node, [number for kind, number in ways if kind == GO]) for node, ways in enumerate(part.ways)]
    goes = [(node, 1 << board.stood_from + node, behind) for node, behind in goes if behind]
    found = list(own)
    for node, _, behind in goes:
        for other in behind:
            found[node] |= own[other]
    for node, bit, _ in goes:
        value = found[node]
        for other, _, _ in goes:
            if found[other] & bit:
                found[other] |= value
    # A node that is reached from what lies behind it can be passed for ever.
    again = 0
    for _, bit, behind in goes:
        if any([found[other] & bit for other in behind]):
            again |= bit
    return [value | board.endless if value & again else value for value in found]


def _asks(part, board, static):
    """The asks of a procedure, as a chart tells them."""
    width, asked_from = board.width, _asked_from(part, board)
    sums = {}
    for record in part.asks:
        for point in (record.there, record.caught):
            if point is not None and point not in sums:
                sums[point] = _sums(static[point * width:(point + 1) * width])
    modes = [node % width for node, ways in enumerate(part.ways) for kind, _ in ways if kind == CALL]
    numbers = [number for ways in part.ways for kind, number in ways if kind == CALL]
    mode_of = {number: mode for number, mode in zip(numbers, modes)}
    found = []
    for number, record in enumerate(part.asks):
        failed = board.uncaught if record.caught is None else sums[record.caught]
        entry = record.callee * width + mode_of[number]
        found.append((1 << asked_from + number, entry, sums[record.there], failed))
    return found


def _sums(parts):
    """For all choices of some of these values, told by a bit for each of them, the bits that they have together."""
    found = [0]
    for value in parts:
        found = found + [one | value for one in found]
    return found
