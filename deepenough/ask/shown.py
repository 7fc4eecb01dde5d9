"""Papers that tell the truths of a sign at all numbers, and short runs that show a sign."""

from deepenough.ask.searches import Search
from deepenough.ask.showings import showing_of
from deepenough.ask.signs import check_sign
from deepenough.base.checks import check_limit_up_to, check_program
from deepenough.errors import TooMany
from deepenough.give.costs import stairs_of
from deepenough.give.short import HIGHEST
from deepenough.know.rounds import rows_below, tells_short_rounds
from deepenough.know.spelling import are_pairs_of, pairs_of
from deepenough.run.runs import MOST_STEPS, Run


def sign_paper(program, sign):
    """The sign paper with the least period, and then the least first."""
    check_program(program)
    check_sign(program, sign)
    showing = showing_of(program, sign)
    showing.check_round()
    truths = tuple([pairs_of(program._plan, bits) for bits in showing.told])
    return (showing.low, showing.span, rows_below(program, len(showing.told)), truths)


def is_sign_paper(program, sign, value):
    """Whether the value is a sign paper of the program and the sign."""
    check_program(program)
    check_sign(program, sign)
    if not isinstance(value, tuple) or len(value) != 4:
        return False
    first, period, rows, truths = value
    if not tells_short_rounds(program, first, period, rows):
        return False
    if not isinstance(truths, tuple) or len(truths) != first + period:
        return False
    showing = showing_of(program, sign)
    showing.climb(first + period)
    for number, told in enumerate(truths):
        if not are_pairs_of(program._plan, showing.told[showing.place(number)], told):
            return False
    # The rows come round as they are told, so it is enough to look at the truths.
    return showing.told[showing.place(first + period)] == showing.told[showing.place(first)]


def sign_run(program, limit, sign):
    """Any run at a limit that shows a sign at its end, with as few steps as possible, or None."""
    check_program(program)
    check_limit_up_to(limit, HIGHEST)
    check_sign(program, sign)
    search = Search(stairs_of(program), limit, sign)
    found = search.shortest()
    if found is None:
        return None
    steps, frame, shown = found
    if steps > MOST_STEPS:
        raise TooMany(MOST_STEPS)
    start, choices = search.run_to(frame, shown)
    return Run.of(program, limit, start, choices)
