"""The rows of a program, one worked out of the other, as far as they have been asked for."""

from deepenough.errors import TooMany
from deepenough.know.boards import Board
from deepenough.know.spelling import is_same_row, spelled

MOST_ROWS = 400


class Ladder:
    """The rows of a program as codes, and the values from which they are.

    When they have come round, `low` is the first limit of [0.17] and `span` the period; until then `span` is None.
    The charts are those of the board, or other ones in which fewer calls catch.
    """

    def __init__(self, board, charts):
        self.board = board
        self.charts = charts
        self.low = 0
        self.span = None
        self.spelt = {}
        self.worked = [self._values_behind(board.refusing())]
        self.told = [self.board.codes_of(self.worked[0])]
        self.numbers = {self.told[0]: 0}
        self.limitless = None

    def climb(self, number):
        """From now on the row of a number is known, or how the rows come round."""
        while self.span is None and len(self.told) <= number:
            found = self._values_behind(self.told[-1])
            codes = self.board.codes_of(found)
            self.worked.append(found)
            if codes in self.numbers:
                self.low = self.numbers[codes]
                self.span = len(self.told) - self.low
            else:
                self.numbers[codes] = len(self.told)
                self.told.append(codes)

    def check_round(self):
        """The error of rows for which first plus period is too great. From now on it is known how they come round."""
        self.climb(MOST_ROWS)
        if self.span is None or len(self.told) > MOST_ROWS:
            raise TooMany(MOST_ROWS)

    def place(self, number):
        """The least number with the same row as a number up to which the rows are known."""
        if number < len(self.told):
            return number
        return self.low + (number - self.low) % self.span

    def place_of(self, limit):
        """The place of a limit other than None, with the error of rows that come round too late."""
        if limit >= MOST_ROWS:
            self.check_round()
        self.climb(limit)
        return self.place(limit)

    def is_row_at(self, number, value):
        """Whether the value is the row of a number, however late the rows come round."""
        self.climb(number)
        place = self.place(number)
        if place not in self.spelt:
            self.spelt[place] = spelled(self.board, self.told[place])
        return is_same_row(self.spelt[place], value)

    def codes_at(self, limit):
        """The row of a limit."""
        if limit is None:
            return self.without_limit()[0]
        return self.told[self.place_of(limit)]

    def values_at(self, limit):
        """The values at a limit, which follow from the row of the limit that is less by one."""
        if limit is None:
            return self.without_limit()[1]
        if limit > MOST_ROWS:
            self.check_round()
        return self.values_of(limit)

    def values_of(self, number):
        """The values at a number, however late the rows come round."""
        self.climb(number)
        return self.worked[self.place(number - 1) + 1 if number > 0 else 0]

    def without_limit(self):
        """The row without a limit, and the values of which it is."""
        if self.limitless is None:
            self.limitless = _limitless(self.board)
        return self.limitless

    def _values_behind(self, codes):
        """The values that follow from a row."""
        found = []
        for chart in self.charts:
            found.extend(chart.behind(codes))
        return tuple(found)


def ladder_of(program):
    """The rows of a program."""
    memo = program._memo
    if memo.ladder is None:
        board = Board(program._plan)
        memo.ladder = Ladder(board, board.charts)
    return memo.ladder


def _limitless(board):
    """The row without a limit, and the values of which it is.

    Leaves and fails are the least that follow from themselves. Only then it can be told what goes on for ever.
    """
    ends = board.endless - 1
    codes = tuple([0 for _ in board.plan.pairs])
    found = board.worked_out(codes)
    after = tuple([value & ends for value in found])
    while after != codes:
        codes = after
        found = board.worked_out(codes)
        after = tuple([value & ends for value in found])
    for_ever = _going_on(board, found)
    return tuple([code | board.endless if goes_on else code for code, goes_on in zip(codes, for_ever)]), found


def _going_on(board, found):
    """For each procedure and mode whether it can go on for ever, in itself or by calling deeper and deeper."""
    callees = [value >> board.called_from for value in found]
    alone = [value & board.endless > 0 for value in found]
    alive = (1 << len(found)) - 1
    before = 0
    while alive != before:
        before = alive
        alive = 0
        for entry, callee in enumerate(callees):
            if alone[entry] or callee & before:
                alive |= 1 << entry
    return [alive >> entry & 1 > 0 for entry in range(len(found))]
