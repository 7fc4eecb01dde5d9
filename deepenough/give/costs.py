"""The least numbers of steps, and how to go with so few.

An end of a call is told as a number: the mode for one that is left, and the number of modes added to it for one that
fails. A table tells of each procedure and mode the pairs of an end and the least number of steps to it.
"""

from heapq import heappop, heappush

from deepenough.base.plans import CALL, FAIL, GO, LEAVE


class Walker:
    """One procedure: how to go through it with as few steps as possible.

    Its ends stand behind its nodes: the end 2 is told as the number `beyond + 2`.
    """

    def __init__(self, part, width):
        self.part = part
        self.width = width
        self.beyond = part.size * width
        self.close = {}
        self.entries, self.targets = _asks(part, width)

    def cheapest(self, mode, behind, onward):
        """From point 0 in a mode, the least numbers of steps to nodes and ends, and from where each is come to.

        `behind` is the table of the calls; `onward` keeps what follows from it, for the other modes.
        """
        best, came = {mode: 0}, {}
        queue = [(0, mode)]
        while queue:
            cost, node = heappop(queue)
            if node >= self.beyond or cost > best[node]:
                continue
            if node not in onward:
                onward[node] = self._onward(node, behind)
            for target, (more, ask, end) in onward[node].items():
                if target not in best or cost + more < best[target]:
                    best[target] = cost + more
                    came[target] = (node, ask, end)
                    heappush(queue, (cost + more, target))
        return best, came

    def _onward(self, node, behind):
        """Where goes from a node and one call or end behind them lead: the steps, the ask and how it ends.

        Where no call is made the ask is None.
        """
        if node not in self.close:
            self.close[node] = _close(self.part, node, self.width)
        ends, asks, _ = self.close[node]
        found = {self.beyond + end: (more, None, end) for end, more in ends}
        for ask, steps in asks:
            targets = self.targets[ask]
            for end, more in behind[self.entries[ask]]:
                target, total = targets[end], steps + 1 + more
                if target not in found or total < found[target][0]:
                    found[target] = (total, ask, end)
        return found

    def to_asks(self, best):
        """The least numbers of steps to the nodes at which asks are made, and the nodes from which goes lead to these.

        `best` is what `cheapest` tells.
        """
        found = {}
        for node, cost in best.items():
            if node < self.beyond:
                for ask, steps in self.close[node][1]:
                    if ask not in found or cost + steps < found[ask][0]:
                        found[ask] = (cost + steps, node)
        return found

    def path(self, node, way):
        """The choices that lead from a node by goes to the nearest one with a way, and the choice of this way."""
        came = _came(self.part, node)
        # The nearest nodes come first.
        nearest = [here for here in came if way in self.part.ways[here]][0]
        return [*_choices_to(came, nearest), self.part.ways[nearest].index(way)]

    def goes(self, node, target):
        """The choices that lead from a node to another one by goes alone."""
        return _choices_to(_came(self.part, node), target)

    def legs(self, mode, here, came):
        """The way from point 0 in a mode to a node or an end to which `cheapest` tells from where it is come to.

        It is told by pairs of choices and of the procedure and mode that is entered behind them, with its end; None if
        no call is made there.
        """
        found = []
        while here != mode:
            here, ask, how = came[here]
            if ask is None:
                kind = LEAVE if how < self.width else FAIL
                found.append((self.path(here, (kind, how if kind == LEAVE else how - self.width)), None))
            else:
                found.append((self.path(here, (CALL, ask)), (self.entries[ask], how)))
        return found[::-1]


class Stairs:
    """The tables of a program, one worked out of the other, as far as they have been asked for."""

    def __init__(self, plan):
        self.plan = plan
        self.walkers = [Walker(part, plan.width) for part in plan.parts]
        # A call that cannot enter fails in its mode, with the step in which it is made.
        self.ground = tuple([((plan.width + mode, 0),) for _, mode in plan.pairs])
        self.tables = []
        self.settled = False
        self.limitless = None
        self.views = {}
        self.onwards = {}

    def table(self, limit):
        """The table of a limit."""
        if limit is None:
            return self._without_limit()
        while len(self.tables) <= limit and not self.settled:
            found = self._worked_out(self.below(len(self.tables)))
            # From a table on that is equal to the one before, all are equal.
            self.settled = len(self.tables) > 0 and found == self.tables[-1]
            self.tables.append(found)
        return self.tables[min(limit, len(self.tables) - 1)]

    def below(self, limit):
        """The table of the calls that are made at a limit."""
        if limit is None:
            return self._without_limit()
        return self.ground if limit == 0 else self.table(limit - 1)

    def view(self, limit, entry):
        """What a call can come to that is entered at a limit: what `cheapest` and `to_asks` tell, as a triple."""
        behind = self.below(limit)
        # From the last table on all are equal, and so is what follows from them.
        at = min(limit, len(self.tables) - 1) if self.settled and limit is not None else limit
        if (at, entry) not in self.views:
            number, mode = entry // self.plan.width, entry % self.plan.width
            walker = self.walkers[number]
            best, came = walker.cheapest(mode, behind, self.onwards.setdefault((at, number), {}))
            self.views[(at, entry)] = (best, came, walker.to_asks(best))
        return self.views[(at, entry)]

    def steps_to(self, limit, start, end):
        """The choices of a run that has an end, with as few steps as possible."""
        return self.spread([([], (limit, self.plan.top * self.plan.width + start, end))])

    def spread(self, legs):
        """The choices of legs, with those of the calls that are entered in them, told with their limits."""
        todo = legs[::-1]
        found = []
        while todo:
            choices, entered = todo.pop()
            found.extend(choices)
            if entered is not None:
                todo.extend(self._legs(entered)[::-1])
        return found

    def _legs(self, entered):
        """The legs of a call that is entered at a limit, with its end; none if it cannot be entered."""
        limit, entry, end = entered
        if limit == -1:
            return []
        walker, mode = self.walkers[entry // self.plan.width], entry % self.plan.width
        _, came, _ = self.view(limit, entry)
        return with_limits(walker.legs(mode, walker.beyond + end, came), limit)

    def _worked_out(self, behind):
        """The table that follows from that of the calls."""
        found = []
        for walker in self.walkers:
            onward = {}
            for mode in range(self.plan.width):
                best, _ = walker.cheapest(mode, behind, onward)
                ends = [(node - walker.beyond, best[node]) for node in best if node >= walker.beyond]
                found.append(tuple(sorted(ends)))
        return tuple(found)

    def _without_limit(self):
        """The table without a limit: what is left when each way is tried that calls deep enough."""
        if self.limitless is None:
            before = None
            found = tuple([() for _ in self.plan.pairs])
            while found != before:
                before, found = found, self._worked_out(found)
            self.limitless = found
        return self.limitless


def with_limits(legs, limit):
    """Legs that are gone at a limit, with the limit of the calls that are entered in them."""
    lower = None if limit is None else limit - 1
    return [(choices, None if call is None else (lower, call[0], call[1])) for choices, call in legs]


def stairs_of(program):
    """The tables of a program."""
    memo = program._memo
    if memo.stairs is None:
        memo.stairs = Stairs(program._plan)
    return memo.stairs


def _asks(part, width):
    """Of each ask the procedure and mode that it enters, and by the ends of that where the caller goes on or ends."""
    entries = {}
    targets = {}
    for node, ways in enumerate(part.ways):
        for kind, ask in ways:
            if kind == CALL:
                record = part.asks[ask]
                # A fall that is not caught is an end of the caller.
                falls = part.size + 1 if record.caught is None else record.caught
                entries[ask] = record.callee * width + node % width
                targets[ask] = [point * width + mode for point in (record.there, falls) for mode in range(width)]
    return entries, targets


def _came(part, node):
    """From where each node is come to by goes alone from a node, with the choice; the nearest ones come first."""
    came, queue, done = {node: None}, [node], 0
    while done < len(queue):
        here = queue[done]
        done += 1
        for choice, (kind, number) in enumerate(part.ways[here]):
            if kind == GO and number not in came:
                came[number] = (here, choice)
                queue.append(number)
    return came


def _choices_to(came, here):
    """The choices that lead to a node, told by from where each one is come to."""
    choices = []
    while came[here] is not None:
        here, choice = came[here]
        choices.append(choice)
    return choices[::-1]


def _close(part, node, width):
    """By goes alone from a node: the least numbers of steps to ends, to the nodes at which asks are made, to nodes."""
    steps = {node: 0}
    ends, asks = {}, []
    queue, done = [node], 0
    while done < len(queue):
        here = queue[done]
        done += 1
        for kind, number in part.ways[here]:
            if kind == GO:
                if number not in steps:
                    steps[number] = steps[here] + 1
                    queue.append(number)
            elif kind == CALL:
                asks.append((number, steps[here]))
            else:
                # The nearest nodes come first, so the first way to an end is the shortest.
                ends.setdefault(number if kind == LEAVE else width + number, steps[here] + 1)
    return list(ends.items()), asks, steps
