"""How many calls can be opened one within the other, without a limit.

What holds without a limit is enough for all limits: at a limit just as many calls can be open, as long as the limit
lets them [0.22]. This is true of each procedure and mode that is entered, with so many calls more that can be opened.
"""

from deepenough.know.ladders import ladder_of


class Heights:
    """For each number the procedures and modes from which so many calls can be opened, as numbers with bits.

    `at_least` has those of 0, 1, .. up to the number from which on they are the same for all numbers.
    """

    def __init__(self, ladder):
        board = ladder.board
        called = [value >> board.called_from for value in ladder.without_limit()[1]]
        self.at_least = []
        after = (1 << len(board.plan.pairs)) - 1
        while not self.at_least or after != self.at_least[-1]:
            self.at_least.append(after)
            after = sum([1 << entry for entry, callees in enumerate(called) if callees & self.at_least[-1]])

    def opening(self, many):
        """The procedures and modes from which so many calls can be opened."""
        return self.at_least[min(many, len(self.at_least) - 1)]

    def most(self, begun, bound):
        """How many calls can be opened from one of these procedures and modes, up to a bound; None for no bound.

        Without a bound the answer is None if there is no greatest number.
        """
        if self.at_least[-1] & begun:
            return bound
        # The sets become smaller and smaller, so their number tells the last one that has a member of these.
        found = sum([1 for held in self.at_least if held & begun]) - 1
        return found if bound is None else min(found, bound)


def heights_of(program):
    """How many calls can be opened in a program."""
    memo = program._memo
    if memo.heights is None:
        memo.heights = Heights(ladder_of(program))
    return memo.heights
