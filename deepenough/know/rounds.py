"""How the rows of a program come round."""

from deepenough.base.checks import check_limit, check_program
from deepenough.base.limits import Limits
from deepenough.base.words import is_whole_from, is_whole_within
from deepenough.errors import InvalidRow
from deepenough.know.ladders import MOST_ROWS, ladder_of
from deepenough.know.spelling import codes_told, spelled


class Rounds:
    """How the rows of a program come round. It never changes."""

    def __init__(self, program):
        check_program(program)
        ladder = ladder_of(program)
        ladder.check_round()
        self._program = program
        self._ladder = ladder
        self._limitless = ladder.without_limit()[0]

    @property
    def program(self):
        """The program."""
        return self._program

    @property
    def first(self):
        """The limit from which on the rows come round."""
        return self._ladder.low

    @property
    def period(self):
        """The least period."""
        return self._ladder.span

    @property
    def rows(self):
        """The rows of the limits that are less than first plus period."""
        return tuple([spelled(self._ladder.board, codes) for codes in self._ladder.told])

    def limits_of(self, value):
        """The set of all limits with a row."""
        codes = codes_told(self._ladder.board, value)
        if codes is None:
            raise InvalidRow("this is no row of the program")
        return marked_limits(self._ladder, [told == codes for told in self._ladder.told])

    def limits_where(self, call):
        """The set of all limits for whose rows a call returns True."""
        return marked_limits(self._ladder, [call(found) for found in self.rows])

    def __getitem__(self, limit):
        check_limit(limit)
        codes = self._limitless if limit is None else self._ladder.told[self._ladder.place(limit)]
        return spelled(self._ladder.board, codes)

    def __contains__(self, value):
        codes = codes_told(self._ladder.board, value)
        return codes is not None and codes in self._ladder.numbers

    def __iter__(self):
        raise TypeError("rounds cannot be iterated over")

    def __len__(self):
        return len(self._ladder.told)

    def __eq__(self, other):
        return isinstance(other, Rounds) and self._program == other._program

    def __str__(self):
        return f"first {self._ladder.low}, period {self._ladder.span}"


def round_paper(program):
    """The round paper with the first and the period of the rows."""
    found = Rounds(program)
    return (found.first, found.period, found.rows)


def is_round_paper(program, value):
    """Whether the value is a round paper of the program."""
    check_program(program)
    return isinstance(value, tuple) and len(value) == 3 and tells_rounds(program, value[0], value[1], value[2])


def tells_rounds(program, first, period, rows):
    """Whether these are the rows below first plus period, and the one behind them is that at first; for all values."""
    if not is_whole_from(first, 0) or not is_whole_from(period, 1):
        return False
    if not isinstance(rows, tuple) or len(rows) != first + period or not tells_rows(program, rows):
        return False
    ladder = ladder_of(program)
    ladder.climb(first + period)
    return ladder.place(first + period) == ladder.place(first)


def tells_short_rounds(program, first, period, rows):
    """The same, but first plus period is not greater than the most rows that a program is asked for."""
    if not is_whole_within(first, 0, MOST_ROWS) or not is_whole_within(period, 1, MOST_ROWS - first):
        return False
    return tells_rounds(program, first, period, rows)


def tells_rows(program, rows):
    """Whether the values of a tuple are the rows from that of the limit 0 on."""
    ladder = ladder_of(program)
    for number, told in enumerate(rows):
        if not ladder.is_row_at(number, told):
            return False
    return True


def rows_below(program, many):
    """The rows of so many limits from 0 on, if it is known how they come round."""
    ladder = ladder_of(program)
    return tuple([spelled(ladder.board, ladder.told[ladder.place(number)]) for number in range(many)])


def marked_limits(ladder, marks):
    """The set of the limits that are marked, by a mark for each limit that is less than first plus period."""
    return set_of_marks(ladder.low, ladder.span, marks)


def set_of_marks(low, span, marks):
    """The same, by first and period."""
    few = [number for number in range(low) if marks[number]]
    rests = [number % span for number in range(low, low + span) if marks[number]]
    return Limits(tuple(few), low, span, tuple(sorted(rests)))
