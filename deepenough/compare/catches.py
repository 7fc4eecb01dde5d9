"""Calls that catch: which of them are idle, and which a program needs that it never fails."""

from deepenough.ask.showings import showing_of
from deepenough.ask.signs import starting
from deepenough.base.checks import check_program
from deepenough.errors import TooMany
from deepenough.give.costs import stairs_of
from deepenough.give.ends import all_started, end_of_run, fails_at, started
from deepenough.give.short import short_choices
from deepenough.know.ladders import Ladder, ladder_of
from deepenough.know.rounds import round_paper, tells_rounds
from deepenough.know.spelling import codes_told, spelled
from deepenough.run.runs import MOST_STEPS

MOST_CATCHES = 8


def idle_catches(program):
    """The ascending tuple of the sites that catch, but at which no fall is ever caught."""
    check_program(program)
    return tuple([site for site in sorted(program.catches) if _is_idle(program, site)])


def never_fails(program):
    """Whether the main procedure fails from no start, at no limit and without one."""
    # What fails without a limit does so at some limit, too [0.22].
    return not fails_at(program)


def least_catches(program):
    """The ascending tuple of the least sets of sites with which the program never fails if no other site catches."""
    check_program(program)
    sites = sorted(program.catches)
    if len(sites) > MOST_CATCHES:
        raise TooMany(MOST_CATCHES)
    charts = {}
    found = []
    for chosen in _by_size(len(sites)):
        if not any([chosen & least == least for least in found]):
            bare = [site for number, site in enumerate(sites) if not chosen >> number & 1]
            if _never_fails_without(program, bare, charts):
                found.append(chosen)
    return tuple(sorted([tuple([site for number, site in enumerate(sites) if least >> number & 1]) for least in found]))


def never_paper(program):
    """Any never paper: a short run at the least limit at which one fails, or how the rows come round without it."""
    check_program(program)
    board = ladder_of(program).board
    for limit, code in enumerate(all_started(program)):
        if code >> board.width & board.full:
            return ("fails", limit, *_failing_run(program, limit))
    return ("never", *round_paper(program), spelled(board, ladder_of(program).codes_at(None)))


def is_never_paper(program, value):
    """Whether the value is a never paper of the program."""
    check_program(program)
    if not isinstance(value, tuple):
        return False
    if len(value) == 4 and value[0] == "fails":
        end = end_of_run(program, value[1], value[2], value[3])
        return end is not None and end[0] == "failed"
    if len(value) != 5 or value[0] != "never" or not tells_rounds(program, value[1], value[2], value[3]):
        return False
    ladder = ladder_of(program)
    board, codes = ladder.board, ladder.codes_at(None)
    if codes_told(board, value[4]) != codes:
        return False
    # The rows of the paper are the right ones, and all that there are.
    return not any([started(program, held) >> board.width & board.full for held in [codes, *ladder.told]])


def _is_idle(program, site):
    """Whether a site that catches catches no fall at any limit, with the error of truths that come round too late."""
    showing = showing_of(program, ("catch", site))
    showing.check_round()
    begun = starting(program)
    # A fall that is caught without a limit is caught at some limit, too [0.22].
    return not any([truths & begun for truths in showing.told])


def _by_size(many):
    """All choices of some of so many things, told by a bit for each of them, those of fewer things first."""
    found = sorted([(f"{chosen:b}".count("1"), chosen) for chosen in range(1 << many)])
    return [chosen for _, chosen in found]


def _never_fails_without(program, bare, charts):
    """Whether the program never fails if these sites do not catch, with the error of rows that come round too late.

    `charts` keeps those of the procedures, by the sites in them that do not catch.
    """
    board = ladder_of(program).board
    chosen = []
    for chart in board.charts:
        here = tuple([site for site in bare if site[0] == chart.part.label])
        key = (chart.part.label, here)
        if key not in charts:
            charts[key] = chart.bared(here)
        chosen.append(charts[key])
    ladder = Ladder(board, chosen)
    ladder.check_round()
    return not any([started(program, codes) >> board.width & board.full for codes in ladder.told])


def _failing_run(program, limit):
    """The start and the choices of a run that fails at a limit at which one does, with as few steps as possible."""
    plan = program._plan
    table = stairs_of(program).table(limit)
    found = [(steps, start, end) for start, entry in zip(plan.begins, plan.begun) for end, steps in table[entry]
             if end >= plan.width]
    steps, start, end = min(found)
    if steps > MOST_STEPS:
        raise TooMany(MOST_STEPS)
    return start, short_choices(program, limit, start, end)
