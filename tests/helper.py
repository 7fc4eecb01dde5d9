"""What several tests need: wrong values, examples, programs, a plain model, and how an error is looked at."""

import ast
import doctest
import random

from deepenough.base.limits import Limits
from deepenough.base.programs import Procedure, Program
from deepenough.know.rows import next_row, row
from deepenough.run.runs import Run


def nested(kind, depth):
    """A tuple, list or dict that is nested so many deep."""
    value = 0
    for _ in range(depth):
        value = {"a": value} if kind is dict else kind([value])
    return value


# The programs of the document.
TURN = Program(2, (0,), Procedure("p", 3, ("call", 0, 1, "p", (0, 1), 1), ("go", 1, 2, ((0, 1), (1, 0))),
                                  ("leave", 2, (0, 1))))
MOVES = (("go", 0, 1, ((1, 0), (2, 1))), ("call", 1, 2, "p", (0, 1), None), ("leave", 0, (0,)), ("leave", 2, (0, 1, 2)))
DOWN = Program(3, (2,), Procedure.of("p", 3, MOVES))

LONG = 10 ** 40 - 1

# Values of all kinds that [0.4] names. None of them is a string that is a name.
STRINGS = ["", " ", "A", "a b", "a1", "abcdefghi", "0", "-1", "none ", "a\n", "\n", "~", "None", "0+2k,", "a" * 5000]
SMALL = [0, 1, 2, 1999, 2000]
LARGE = [2001, 10 ** 20, LONG]
NEGATIVE = [-1, -2, -2000, -2001, -LONG]
BOOLEANS = [True, False]
HOLDERS = [(), (1,), (0, 1), [], [0], [0, 1], {}, {"a": 1}, {0: 1}, ((),), ([],), ({},)]
NESTED = [nested(kind, 12) for kind in (tuple, list, dict)]
OBJECTS = [Limits.every(), Limits.none(), Limits((0, 2), 3, 3, (0, 1)), TURN["p"], TURN, Run(TURN, 1, 0, 0)]

NO_INTEGERS = [None, *BOOLEANS, *STRINGS, "a", "main", *HOLDERS, *NESTED, *OBJECTS]
NO_TUPLES = [None, *BOOLEANS, *STRINGS, "a", *SMALL, *LARGE, *NEGATIVE, [], [0], [0, 1], {}, {0: 1}, *NESTED[1:],
             *OBJECTS]
VALUES = [*NO_INTEGERS, *SMALL, *LARGE, *NEGATIVE]

# Values that are no programs, and no limits.
NO_PROGRAMS = [value for value in VALUES if not isinstance(value, Program)]
NO_LIMITS = [value for value in [*NO_INTEGERS, *NEGATIVE] if value is not None]


def raised(call, *given):
    """The error that a call raises, or None."""
    try:
        call(*given)
    except Exception as error:
        return error
    return None


def check_raises(case, error, kept, call, *given):
    """The call raises just this class of error, with these attributes."""
    found = raised(call, *given)
    case.assertIs(type(found), error, given)
    for name, value in kept.items():
        held = getattr(found, name)
        case.assertEqual((type(held), held), (type(value), value))


class SameValues(doctest.OutputChecker):
    """What is printed is right if it is the same value, whichever quotes the document has written."""

    def check_output(self, want, got, flags):
        return want == got or ast.literal_eval(want) == ast.literal_eval(got)


def check_examples(case, text, names):
    """The examples of a text print what stands behind them."""
    test = doctest.DocTestParser().get_doctest(text, dict(names), "DOC.md", None, 0)
    report = []
    result = doctest.DocTestRunner(SameValues(), verbose=False).run(test, out=report.append)
    case.assertGreater(result.attempted, 0)
    case.assertEqual(result.failed, 0, "".join(report))


def check_not_iterable(case, *held):
    """None of these can be iterated over."""
    for value in held:
        for call in (iter, list, tuple, sorted, max, lambda many: [*many], lambda many: dict(many)):
            case.assertIs(type(raised(call, value)), TypeError)


# Programs by chance, always the same ones.

def some_modes(chance, modes):
    return tuple(sorted(chance.sample(range(modes), chance.randint(1, modes))))


def some_move(chance, modes, points, names):
    here, there = chance.randrange(points), chance.randrange(points)
    word = chance.choice(["go", "go", "call", "call", "leave", "fail"])
    if word == "go":
        pairs = [(old, new) for old in range(modes) for new in range(modes)]
        return (word, here, there, tuple(sorted(chance.sample(pairs, chance.randint(1, min(3, len(pairs)))))))
    if word == "call":
        caught = chance.choice([None, chance.randrange(points)])
        return (word, here, there, chance.choice(names), some_modes(chance, modes), caught)
    return (word, here, some_modes(chance, modes))


def some_program(chance, procedures=3, points=5, moves=9, modes=3):
    modes = chance.randint(1, modes)
    names = ["q", "p", "main", "r", "zz", "a"][:chance.randint(1, procedures)]
    chance.shuffle(names)
    made = []
    for name in names:
        size = chance.randint(1, points)
        told = [some_move(chance, modes, size, names) for _ in range(chance.randint(0, moves))]
        made.append(Procedure.of(name, size, tuple(told)))
    return Program.of(modes, some_modes(chance, modes), tuple(made))


def some_programs(seed, many, **bounds):
    chance = random.Random(seed)
    return [some_program(chance, **bounds) for _ in range(many)]


RING_NAMES = "pqrstu"


def ring_program(lengths, modes, many, chain=0):
    """A program whose rows come round late.

    Each pair of a procedure and a mode calls the one behind it, and is left if that one is left and fails if it fails;
    the last one of a ring calls the first one and does it the other way round: the ring comes round after twice its
    length. The pairs of the chain do it the same way, but its last one is always left: so the first of them is left
    from the limit on that is the length of the chain less one.
    """
    pairs = [(place, mode) for mode in range(modes) for place in range(many)]
    onward = {place: {} for place in range(many)}
    closing = {place: [] for place in range(many)}
    done = {place: [] for place in range(many)}
    at = 0
    for length in (*lengths, chain):
        ring = pairs[at:at + length]
        at += length
        for (place, mode), (_, behind) in zip(ring, ring[1:]):
            onward[place][mode] = behind
        if at == sum(lengths) + chain and chain > 0:
            done[ring[-1][0]].append((ring[-1][1], ring[-1][1]))
        elif length > 0:
            closing[ring[-1][0]].append((ring[-1][1], ring[0]))
    every = tuple(range(modes))
    made = []
    for place in range(many):
        moves = []
        if onward[place]:
            moves.append(("go", 0, 1, tuple(sorted(onward[place].items()))))
            behind = tuple(sorted(set(onward[place].values())))
            moves.append(("call", 1, 2, RING_NAMES[(place + 1) % many], behind, 3))
        for point, (mode, (first, new)) in enumerate(closing[place], start=4):
            moves.append(("go", 0, point, ((mode, new),)))
            moves.append(("call", point, 3, RING_NAMES[first], (new,), 2))
        if done[place]:
            moves.append(("go", 0, 2, tuple(done[place])))
        made.append(Procedure.of(RING_NAMES[place], 8, (*moves, ("leave", 2, every), ("fail", 3, every))))
    return Program.of(modes, (0,), tuple(made))


# First and period of them are (0, 400), (1, 400), (0, 630) and (0, 40).
JUST_400 = ring_program((8, 25), 6, 6)
JUST_401 = ring_program((8, 25), 6, 6, chain=2)
ROUND_630 = ring_program((5, 7, 9), 6, 6)
ROUND_40 = ring_program((4, 5), 3, 3)
LATE_35 = ring_program((), 6, 6, chain=36)


def members(limits, bound=130):
    """The members of a set below a bound."""
    return [number for number in range(bound) if number in limits]


def rows_of(program, many):
    """So many rows from that of the limit 0 on, each worked out of the one before."""
    rows = [row(program, 0)]
    while len(rows) < many:
        rows.append(next_row(program, rows[-1]))
    return tuple(rows[:many])


# A plain model: what the document says of options and rows, word by word, over sets and situations.

def model_steps_from(program, limit, situation):
    """The options of a situation, by [0.11] to [0.14], each with the signs that the step to it shows."""
    mode, sites, spot = situation
    if spot in ("left", "failed"):
        return []

    def fallen(sites, *signs):
        while sites:
            name, index = sites[-1]
            sites = sites[:-1]
            caught = program[name].moves[index][5]
            if caught is not None:
                return (mode, sites, (name, caught)), [*signs, ("catch", (name, index))]
        return (mode, (), "failed"), [*signs]

    found = []
    name, point = spot
    for index, move in enumerate(program[name].moves):
        if move[1] != point:
            continue
        if move[0] == "go":
            found.extend([((new, sites, (name, move[2])), []) for old, new in move[3] if old == mode])
        elif move[0] == "call" and mode in move[4]:
            site = (name, index)
            refused = limit is not None and len(sites) >= limit
            entered = ((mode, (*sites, site), (move[3], 0)), [("enter", site)])
            found.append(fallen((*sites, site), ("over", site)) if refused else entered)
        elif move[0] == "leave" and mode in move[2]:
            if sites:
                caller, place = sites[-1]
                found.append(((mode, sites[:-1], (caller, program[caller].moves[place][2])), []))
            else:
                found.append(((mode, (), "left"), []))
        elif move[0] == "fail" and mode in move[2]:
            found.append(fallen(sites))
    return found


def model_options(program, limit, situation):
    """The options of a situation."""
    return [option for option, _ in model_steps_from(program, limit, situation)]


def model_signs_in(situation, limit):
    """The signs that a situation shows itself."""
    mode, sites, spot = situation
    place = [("place", *spot, mode)] if isinstance(spot, tuple) else []
    return [*place, ("full",)] if len(sites) == limit else place


def all_situations(program, limit):
    """All situations to which runs at a limit come, each with its options."""
    todo = [(mode, (), (program.main, 0)) for mode in program.starts]
    found = {}
    while todo:
        situation = todo.pop()
        if situation not in found:
            found[situation] = model_options(program, limit, situation)
            todo.extend(found[situation])
    return found


def can_go_on(graph):
    """The nodes of a graph, a dict from nodes to those behind them, from which one can go on for ever."""
    alive = set(graph)
    while True:
        left = {node for node in alive if alive & set(graph[node])}
        if left == alive:
            return alive
        alive = left


def all_pairs(program):
    return sorted((name, mode) for name in program.names for mode in range(program.modes))


def entered(program, name, mode):
    """The program that begins in a procedure and a mode."""
    procedures = [program[name], *[one for one in program.procedures if one.called != name]]
    return Program.of(program.modes, (mode,), tuple(procedures))


def model_row(program, limit):
    """The row of a small limit, by all situations of runs that begin in each procedure and each mode."""
    found = {}
    for name, mode in all_pairs(program):
        graph = all_situations(entered(program, name, mode), limit)
        ends = {word: tuple(sorted(held for held, _, spot in graph if spot == word)) for word in ("left", "failed")}
        found[name, mode] = (ends["left"], ends["failed"], bool(can_go_on(graph)))
    return found


def behind_pairs(program, before, name):
    """What is behind each pair of a point and a mode of a procedure in it, by [0.16], and in which modes it fails."""
    graph = {(point, mode): set() for point in range(program[name].points) for mode in range(program.modes)}
    fails = {pair: set() for pair in graph}
    for move in program[name].moves:
        if move[0] == "go":
            for old, new in move[3]:
                graph[move[1], old].add((move[2], new))
        elif move[0] == "fail":
            for mode in move[2]:
                fails[move[1], mode].add(mode)
        elif move[0] == "call":
            for mode in move[4]:
                leaves, falls = before[move[3], mode][:2]
                graph[move[1], mode] |= {(move[2], left) for left in leaves}
                if move[5] is None:
                    fails[move[1], mode] |= set(falls)
                else:
                    graph[move[1], mode] |= {(move[5], fell) for fell in falls}
    return graph, fails


def all_behind(graph, first):
    found, todo = set(), list(first)
    while todo:
        node = todo.pop()
        if node not in found:
            found.add(node)
            todo.extend(graph[node])
    return found


def model_next(program, before):
    """The row that follows from one, by [0.16]."""
    found = {}
    for name, mode in all_pairs(program):
        graph, fails = behind_pairs(program, before, name)
        come = all_behind(graph, [(0, mode)])
        leaves = {held for move in program[name].moves if move[0] == "leave" for held in move[2]
                  if (move[1], held) in come}
        calls = [(move[3], held) for move in program[name].moves if move[0] == "call" for held in move[4]
                 if (move[1], held) in come]
        endless = bool(come & can_go_on(graph)) or any(before[call][2] for call in calls)
        failed = set().union(*[fails[pair] for pair in come])
        found[name, mode] = (tuple(sorted(leaves)), tuple(sorted(failed)), endless)
    return found


def model_limitless(program):
    """The row without a limit: the least leaves and fails, and all ways on in one graph, those into calls too."""
    held = {pair: ((), (), False) for pair in all_pairs(program)}
    while True:
        after = {pair: (*triple[:2], False) for pair, triple in model_next(program, held).items()}
        if after == held:
            break
        held = after
    whole = {}
    for name in program.names:
        graph, _ = behind_pairs(program, held, name)
        for (point, mode), behind in graph.items():
            whole[name, point, mode] = {(name, *pair) for pair in behind}
        for move in program[name].moves:
            if move[0] == "call":
                for mode in move[4]:
                    whole[name, move[1], mode].add((move[3], 0, mode))
    for_ever = can_go_on(whole)
    return {(name, mode): (*held[name, mode][:2], (name, 0, mode) in for_ever) for name, mode in held}


def model_signs(program, limit):
    """All signs that runs at a limit show, by all situations."""
    found = set()
    for situation in all_situations(program, limit):
        found.update(model_signs_in(situation, limit))
        for _, signs in model_steps_from(program, limit, situation):
            found.update(signs)
    return found


def model_sign_steps(program, limit, most=None):
    """The least numbers of steps of runs at a limit that show signs, up to a greatest number."""
    layer = {(mode, (), (program.main, 0)) for mode in program.starts}
    seen, found, steps = set(layer), {}, 0
    while layer and (most is None or steps <= most):
        behind = set()
        for situation in layer:
            for sign in model_signs_in(situation, limit):
                found[sign] = min(steps, found.get(sign, steps))
            for option, signs in model_steps_from(program, limit, situation):
                behind.add(option)
                for sign in signs:
                    found.setdefault(sign, steps + 1)
        layer = behind - seen
        seen |= layer
        steps += 1
    return {sign: many for sign, many in found.items() if most is None or many <= most}


def all_signs(program):
    """All signs of a program."""
    places = [("place", one.called, point, mode) for one in program.procedures for point in range(one.points)
              for mode in range(program.modes)]
    calls = [(word, site) for word in ("enter", "over") for site in program.calls]
    return [*places, *calls, *[("catch", site) for site in program.catches], ("full",)]


def model_steps(program, limit, most=None):
    """The least numbers of steps to the ends of runs at a limit, by all situations, up to a greatest number."""
    layer = {(mode, (), (program.main, 0)) for mode in program.starts}
    seen, found, steps = set(layer), {}, 0
    while layer and (most is None or steps < most):
        steps += 1
        layer = {option for one in layer for option in model_options(program, limit, one)} - seen
        seen |= layer
        for mode, _, spot in layer:
            if isinstance(spot, str):
                found[spot, mode] = steps
    return found


# The names of the copies: those of p with 0, 1, .. calls more that can be opened, then those of q.
COPY_NAMES = {"p": "abcd", "q": "klmn"}


def copied(program, limit):
    """A program that does without a limit what another one with the procedures p and q does at a small one."""
    every = tuple(range(program.modes))
    made = []
    for procedure in program.procedures:
        for rest in range(limit, -1, -1):
            moves = [(*move[:3], COPY_NAMES[move[3]][rest - 1] if rest > 0 else "x", *move[4:])
                     if move[0] == "call" else move for move in procedure.moves]
            made.append(Procedure.of(COPY_NAMES[procedure.called][rest], procedure.points, tuple(moves)))
    main = [one for one in made if one.called == COPY_NAMES[program.main][limit]]
    others = [one for one in made if one != main[0]]
    fall = Procedure("x", 1, ("fail", 0, every))
    return Program.of(program.modes, program.starts, (*main, *others, fall))


def some_copied(seed, many):
    """Programs with the procedures p, or p and q, and limits for which they can be copied."""
    chance = random.Random(seed)
    found = []
    for _ in range(many):
        names = chance.choice([["p"], ["p", "q"], ["q", "p"]])
        modes = chance.randint(1, 3)
        made = []
        for name in names:
            moves = [some_move(chance, modes, 4, names) for _ in range(chance.randint(2, 8))]
            made.append(Procedure.of(name, 4, tuple(moves)))
        program = Program.of(modes, some_modes(chance, modes), tuple(made))
        found.extend([(program, limit) for limit in range(4 if len(names) == 1 else 2)])
    return found


def step_program(last, *parts):
    """A chain of procedures: each calls the one behind it so many times and goes so many steps; the last one goes."""
    made = []
    for place, (calls, goes) in enumerate(parts):
        moves = [("call", point, point + 1, RING_NAMES[place + 1], (0,), None) for point in range(calls)]
        moves += [("go", point, point + 1, ((0, 0),)) for point in range(calls, calls + goes)]
        made.append(Procedure(RING_NAMES[place], calls + goes + 1, *moves, ("leave", calls + goes, (0,))))
    moves = [("go", point, point + 1, ((0, 0),)) for point in range(last)]
    made.append(Procedure(RING_NAMES[len(parts)], last + 1, *moves, ("leave", last, (0,))))
    return Program(1, (0,), *made)


# The shortest runs of them that are left have 1000, 1001 and 1002 steps; they are runs at the limit 5.
STEPS_1000 = step_program(7, (2, 1), (3, 2), (1, 2), (4, 3), (4, 1))
STEPS_1001 = step_program(6, (4, 0), (2, 0), (2, 2), (3, 1), (2, 1))
STEPS_1002 = step_program(6, (4, 1), (2, 0), (2, 2), (3, 1), (2, 1))
