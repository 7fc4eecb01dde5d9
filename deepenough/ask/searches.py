"""Runs that show a sign with as few steps as possible.

Such a run makes calls that stay open, one within the other, and shows the sign in the last one of them. A frame is a
pair of the number of the calls that are open, and of the procedure and mode that was entered last. Without a limit it
does not matter how many calls are open: then the number is always 0.
"""

from heapq import heappop, heappush

from deepenough.base.plans import CALL
from deepenough.give.costs import with_limits


class Search:
    """The search for a run at a limit that shows a sign."""

    def __init__(self, stairs, limit, sign):
        self.stairs = stairs
        self.limit = limit
        self.word = sign[0]
        # What shows the sign in the procedure itself: a node, or the asks at a site. It stands in the owner.
        self.owner, self.goal, self.asks = _goals(stairs.plan, sign)
        self.costs = {}
        self.callers = {}
        self.queue = []

    def shortest(self):
        """The least number of steps, the last frame, and how the sign is shown in it; None if it is not shown."""
        for entry in self.stairs.plan.begun:
            self._come(0, (0, entry), None)
        found = None
        while self.queue:
            cost, depth, entry = heappop(self.queue)
            if found is not None and cost >= found[0]:
                break
            if cost == self.costs[(depth, entry)]:
                shown = self._shown(depth, entry)
                if shown is not None and (found is None or cost + shown[0] < found[0]):
                    found = (cost + shown[0], (depth, entry), shown)
                self._enter(cost, depth, entry)
        return found

    def run_to(self, frame, shown):
        """The start and the choices of the run that shows the sign in a frame."""
        legs = self._legs(frame, shown)
        before = self.callers[frame]
        while before is not None:
            frame, ask = before
            steps, node = self._view(frame)[2][ask]
            legs = [*self._legs(frame, (steps, node, ask, None)), *legs]
            before = self.callers[frame]
        return frame[1] % self.stairs.plan.width, tuple(self.stairs.spread(legs))

    def _rest(self, depth):
        """How many calls more can be opened."""
        return None if self.limit is None else self.limit - depth

    def _view(self, frame):
        """What can be come to in a frame."""
        return self.stairs.view(self._rest(frame[0]), frame[1])

    def _come(self, cost, frame, caller):
        """Keep that so many steps lead to a frame, from a frame and an ask, if no fewer do."""
        if frame not in self.costs or cost < self.costs[frame]:
            self.costs[frame] = cost
            self.callers[frame] = caller
            heappush(self.queue, (cost, *frame))

    def _enter(self, cost, depth, entry):
        """Come to the frames of the calls that enter in a frame."""
        if self._rest(depth) == 0:
            return
        deeper = depth if self.limit is None else depth + 1
        entries = self.stairs.walkers[entry // self.stairs.plan.width].entries
        for ask, (steps, _) in self._view((depth, entry))[2].items():
            self._come(cost + steps + 1, (deeper, entries[ask]), ((depth, entry), ask))

    def _shown(self, depth, entry):
        """How a frame shows the sign with as few steps as possible: the steps, and the node from which goes lead on.

        Behind these stand the ask that is made then, and the end of what it enters, or None for each.
        """
        rest = self._rest(depth)
        if self.word == "full":
            return (0, entry % self.stairs.plan.width, None, None) if rest == 0 else None
        if entry // self.stairs.plan.width != self.owner:
            return None
        if self.word == "place":
            return self._placed(depth, entry)
        if self.word == "catch":
            return self._caught(depth, entry)
        if (self.word == "over") != (rest == 0):
            return None
        asks = self._view((depth, entry))[2]
        return min([(asks[ask][0] + 1, asks[ask][1], ask, None) for ask in self.asks if ask in asks], default=None)

    def _placed(self, depth, entry):
        """How a frame comes to the place, as `_shown` tells it."""
        best = self._view((depth, entry))[0]
        walker = self.stairs.walkers[self.owner]
        found = [(cost + walker.close[node][2][self.goal], node, None, None) for node, cost in best.items()
                 if node < walker.beyond and self.goal in walker.close[node][2]]
        return min(found, default=None)

    def _caught(self, depth, entry):
        """How a fall is caught in a frame, as `_shown` tells it."""
        asks = self._view((depth, entry))[2]
        behind = self.stairs.below(self._rest(depth))
        entries = self.stairs.walkers[self.owner].entries
        found = [(asks[ask][0] + 1 + more, asks[ask][1], ask, end) for ask in self.asks if ask in asks
                 for end, more in behind[entries[ask]] if end >= self.stairs.plan.width]
        return min(found, default=None)

    def _legs(self, frame, shown):
        """The legs that lead through a frame to where it shows the sign, with the limits of the calls in them."""
        _, node, ask, end = shown
        depth, entry = frame
        mode = entry % self.stairs.plan.width
        walker = self.stairs.walkers[entry // self.stairs.plan.width]
        legs = walker.legs(mode, node, self._view(frame)[1])
        if ask is not None:
            call = None if end is None else (walker.entries[ask], end)
            legs = [*legs, (walker.path(node, (CALL, ask)), call)]
        elif self.word == "place":
            legs = [*legs, (walker.goes(node, self.goal), None)]
        return with_limits(legs, self._rest(depth))


def _goals(plan, sign):
    """The number of the procedure of a sign, and its node or the asks at its site."""
    if sign[0] == "full":
        return None, None, []
    if sign[0] == "place":
        _, name, point, mode = sign
        return plan.numbers[name], point * plan.width + mode, []
    owner = plan.numbers[sign[1][0]]
    asks = [number for number, record in enumerate(plan.parts[owner].asks) if record.told_site == sign[1]]
    return owner, None, asks
