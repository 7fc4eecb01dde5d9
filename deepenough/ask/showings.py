"""The truths of signs, one worked out of the other, as far as they have been asked for.

Truths are told as a number with a bit for each pair of a procedure and a mode.
"""

from deepenough.errors import TooMany
from deepenough.know.ladders import MOST_ROWS, ladder_of


class Showing:
    """The truths of a sign. When rows and truths have come round, `low` and `span` tell how, as those of the rows do.

    Of each procedure there are the bits of values that show the sign in the procedure itself: those that do so where
    no call can enter, and those that do so where calls can; besides, those of calls that can catch falls.
    """

    def __init__(self, ladder, sign):
        self.ladder = ladder
        self.sign = sign
        self.low = 0
        self.span = None
        self.catching = _asks_at(ladder.board, sign[1]) if sign[0] == "catch" else []
        self.told = [self._worked_out(_shown_at_0(ladder.board, sign), ladder.values_of(0), 0)]
        self.always = _shown_by_calls(ladder.board, sign)
        self.numbers = {(0, self.told[0]): 0}
        self.limitless = None

    def climb(self, number):
        """From now on the truths at a number are known, or how rows and truths come round."""
        ladder = self.ladder
        while self.span is None and len(self.told) <= number:
            at = len(self.told)
            found = ladder.values_of(at)
            shown = self._shown(ladder.told[ladder.place(at - 1)])
            truths = self._worked_out(shown, found, self.told[-1])
            held = (ladder.place(at), truths)
            if held in self.numbers:
                self.low = self.numbers[held]
                self.span = at - self.low
            else:
                self.numbers[held] = at
                self.told.append(truths)

    def check_round(self):
        """The error of more different pairs of a row and truths than there may be."""
        self.climb(MOST_ROWS)
        if self.span is None:
            raise TooMany(MOST_ROWS)

    def truths_at(self, limit):
        """The truths at a limit."""
        if limit is None:
            return self._without_limit()
        if limit >= MOST_ROWS:
            self.check_round()
        self.climb(limit)
        return self.told[self.place(limit)]

    def place(self, number):
        """The least number with the same row and truths as a number up to which the truths are known."""
        if number < len(self.told):
            return number
        return self.low + (number - self.low) % self.span

    def _without_limit(self):
        """The truths without a limit: the least ones that follow from themselves."""
        if self.limitless is None:
            codes, found = self.ladder.without_limit()
            shown = self._shown(codes)
            before, after = None, 0
            while after != before:
                before, after = after, self._worked_out(shown, found, after)
            self.limitless = after
        return self.limitless

    def _shown(self, codes):
        """By the procedures, the bits that show the sign where calls do what a row tells."""
        shown = list(self.always)
        board = self.ladder.board
        for place, bit, entry in self.catching:
            if codes[entry] >> board.width & board.full:
                shown[place] |= bit
        return shown

    def _worked_out(self, shown, found, truths):
        """The truths that follow from values, from what shows the sign, and from the truths inside of the calls."""
        board = self.ladder.board
        inside = truths << board.called_from
        after = 0
        for entry, value in enumerate(found):
            if value & (shown[entry // board.width] | inside):
                after |= 1 << entry
        return after


def showing_of(program, sign):
    """The truths of a sign of a program."""
    showings = program._memo.showings
    if sign not in showings:
        showings[sign] = Showing(ladder_of(program), sign)
    return showings[sign]


def _asks_at(board, site):
    """The asks at a site: the number of the procedure, the bit, and the procedure and mode that is entered."""
    return [(place, bit, entry) for place, chart in enumerate(board.charts)
            for record, (bit, entry, _, _) in zip(chart.part.asks, chart.asks) if record.told_site == site]


def _at_place(board, sign):
    """By the procedures, the bit of the node that a sign of the first kind tells."""
    _, name, point, mode = sign
    bit = 1 << board.stood_from + point * board.width + mode
    return [bit if chart.part.label == name else 0 for chart in board.charts]


def _shown_at_0(board, sign):
    """By the procedures, the bits that show a sign where no call can enter."""
    if sign[0] == "place":
        return _at_place(board, sign)
    shown = [0 for _ in board.charts]
    if sign[0] == "full":
        # Each value has a bit for the node at which the procedure is entered.
        return [-1 for _ in board.charts]
    if sign[0] == "over" or sign[0] == "catch":
        for place, bit, _ in _asks_at(board, sign[1]):
            shown[place] |= bit
    return shown


def _shown_by_calls(board, sign):
    """By the procedures, the bits that show a sign where calls can enter, whatever they do then."""
    if sign[0] == "place":
        return _at_place(board, sign)
    shown = [0 for _ in board.charts]
    if sign[0] == "enter":
        for place, bit, _ in _asks_at(board, sign[1]):
            shown[place] |= bit
    return shown
