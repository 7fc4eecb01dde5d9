"""Steps of runs, in numbers.

A state is a tuple (part, node, stack, depth): the number of the procedure of the spot, its node, the calls that are
open, as a pair of the innermost one and the stack of the others (None if there is none), and how many they are. At the
end of a run the part is LEFT or FAILED, and the node is the mode.
"""

from deepenough.base.plans import CALL, GO, LEAVE
from deepenough.base.words import is_whole_within

LEFT = -1
FAILED = -2

ENDINGS = {-1: "left", -2: "failed"}
WORDS = {"left": -1, "failed": -2}


def first_state(plan, start):
    """The state in which a run begins."""
    return (plan.top, start, None, 0)


def ways_at(plan, state):
    """The ways that lead on from a state, in the order of the options."""
    if state[0] < 0:
        return ()
    return plan.parts[state[0]].ways[state[1]]


def is_refused(state, way, limit):
    """Whether a way is a call that cannot enter, for the limit."""
    return way[0] == CALL and limit is not None and state[3] >= limit


def stepped(plan, limit, state, way):
    """The state behind one step."""
    part, node, stack, depth = state
    kind, number = way
    if kind == GO:
        return (part, number, stack, depth)
    mode = node % plan.width
    if kind == CALL:
        record = plan.parts[part].asks[number]
        if is_refused(state, way, limit):
            return _fallen(plan, (record, stack), depth + 1, mode)
        return (record.callee, mode, (record, stack), depth + 1)
    if kind != LEAVE:
        return _fallen(plan, stack, depth, mode)
    if stack is None:
        return (LEFT, mode, None, 0)
    record, rest = stack
    return (record.caller, record.there * plan.width + mode, rest, depth - 1)


def _fallen(plan, stack, depth, mode):
    """The state behind the failing of what the innermost call has entered, or would have entered."""
    while stack is not None:
        record, stack = stack
        depth = depth - 1
        if record.caught is not None:
            return (record.caller, record.caught * plan.width + mode, stack, depth)
    return (FAILED, mode, None, 0)


def walked(plan, limit, start, choices):
    """The last state of a run, the greatest depth, and how many calls could not enter.

    None if a choice is the index of no option.
    """
    state = first_state(plan, start)
    deepest, unentered = 0, 0
    for choice in choices:
        ways = ways_at(plan, state)
        if not is_whole_within(choice, 0, len(ways) - 1):
            return None
        if is_refused(state, ways[choice], limit):
            unentered += 1
        state = stepped(plan, limit, state, ways[choice])
        if state[3] > deepest:
            deepest = state[3]
    return state, deepest, unentered


def situation_of(plan, state):
    """The situation of a state."""
    stack = state[2]
    sites = []
    while stack is not None:
        record, stack = stack
        sites.append(record.told_site)
    return situation_behind(plan, state, tuple(sites[::-1]))


def situation_behind(plan, state, sites):
    """The situation of a state, by the sites of the calls that are open in it or were open one step ahead of it."""
    part, node, stack, depth = state
    if part < 0:
        return (node, (), ENDINGS[part])
    # A step opens one call, or closes some.
    held = sites[:depth] if depth <= len(sites) else (*sites, stack[0].told_site)
    return (node % plan.width, held, (plan.parts[part].label, node // plan.width))


def state_of(plan, value):
    """The state that a situation tells; None for every other value."""
    if not isinstance(value, tuple) or len(value) != 3:
        return None
    mode, sites, spot = value
    if not is_whole_within(mode, 0, plan.width - 1) or not isinstance(sites, tuple):
        return None
    if isinstance(spot, str):
        return (WORDS[spot], mode, None, 0) if spot in WORDS and len(sites) == 0 else None
    part, stack = plan.top, None
    for site in sites:
        record = plan.parts[part].record_at(site)
        if record is None:
            return None
        part, stack = record.callee, (record, stack)
    if not isinstance(spot, tuple) or len(spot) != 2 or spot[0] != plan.parts[part].label:
        return None
    if not is_whole_within(spot[1], 0, plan.parts[part].size - 1):
        return None
    return (part, spot[1] * plan.width + mode, stack, len(sites))
