"""How many calls can be open at the same time."""

from deepenough.ask.heights import heights_of
from deepenough.ask.signs import starting
from deepenough.base.checks import check_limit_up_to, check_program
from deepenough.base.limits import Limits
from deepenough.base.words import is_whole_within
from deepenough.errors import InvalidLimit, InvalidNumber, TooMany
from deepenough.know.ladders import MOST_ROWS, ladder_of

DEEPEST = 400
MOST_CALLS = 40


def most_open(program, limit):
    """The greatest number of calls that are open in a run at a limit; None if there is none without a limit."""
    check_program(program)
    check_limit_up_to(limit, DEEPEST)
    return heights_of(program).most(starting(program), limit)


def depth_limits(program, many):
    """The set of all limits at which at least so many calls can be open."""
    check_program(program)
    if not is_whole_within(many, 0, MOST_CALLS):
        raise InvalidNumber(many)
    ladder = ladder_of(program)
    ladder.check_round()
    heights = heights_of(program)
    # With 0, 1, .., `last` calls more the sets are always other ones, and from there on they stay the same.
    last = heights.most(heights.opening(0), many)
    if max(ladder.low, last) + ladder.span > MOST_ROWS:
        raise TooMany(MOST_ROWS)
    if heights.opening(many) & starting(program):
        return Limits.since(many)
    return Limits.none()


def chain_at(program, limit):
    """Any tuple of sites whose calls are open, one within the other, in a run at a limit, as many as there can be."""
    check_program(program)
    if not is_whole_within(limit, 0, DEEPEST):
        raise InvalidLimit("this is no limit, or one that is too great here")
    heights, ladder = heights_of(program), ladder_of(program)
    board = ladder.board
    begun = starting(program)
    many = heights.most(begun, limit)
    entry = _lowest(heights.opening(many) & begun)
    found = []
    for opened in range(many):
        value = ladder.values_of(limit - opened)[entry]
        deeper = _lowest(value >> board.called_from & heights.opening(many - opened - 1))
        found.append(_site(board.charts[entry // board.width], value, deeper))
        entry = deeper
    return tuple(found)


def _lowest(bits):
    """The number of the lowest bit."""
    return (bits & -bits).bit_length() - 1


def _site(chart, value, callee):
    """The first site at which a procedure and mode is called in a value."""
    called = [record for record, (bit, entry, _, _) in zip(chart.part.asks, chart.asks)
              if entry == callee and value & bit]
    return called[0].told_site
