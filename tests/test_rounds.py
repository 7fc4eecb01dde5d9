"""[0.17], [7.1] and stage 7: how the rows come round."""

import inspect
import unittest

from deepenough.base.limits import Limits
from deepenough.base.programs import Procedure, Program
from deepenough.errors import InvalidLimit, InvalidProgram, InvalidRow, TooMany
from deepenough.know.rounds import Rounds, is_round_paper, round_paper
from deepenough.know.rows import next_row, row

from helper import (DOWN, JUST_400, JUST_401, LATE_35, LONG, NO_INTEGERS, NO_LIMITS, NO_PROGRAMS, ROUND_40, ROUND_630,
                    TURN, VALUES, all_pairs, check_examples, check_not_iterable, check_raises, model_limitless,
                    model_next, raised, ring_program, some_programs)

EXAMPLES = """
>>> [str(Rounds(TURN)), str(Rounds(DOWN)), len(Rounds(DOWN)), str(Rounds(TURN).limits_of(row(TURN, 1))), row(TURN, None) in Rounds(TURN)]
['first 0, period 2', 'first 2, period 1', 3, '1+2k', False]
>>> [str(Rounds(DOWN).limits_where(lambda some: some[("p", 2)][1] == ())), is_round_paper(TURN, (1, 2, (row(TURN, 0), row(TURN, 1), row(TURN, 0))))]
['2+1k', True]
"""

NAMES = {"TURN": TURN, "DOWN": DOWN, "Rounds": Rounds, "row": row, "is_round_paper": is_round_paper}
ALONE = Program(1, (0,), Procedure("p", 1, ("leave", 0, (0,))))
# Rows that come round late, and only behind others.
LATE_ROUND = ring_program((4, 3), 4, 4, chain=9)
SMALL = some_programs(41, 40, points=4, moves=7)
ALL = [TURN, DOWN, ALONE, ROUND_40, LATE_ROUND, *SMALL]


def model_rows(program, many):
    rows = [model_next(program, {pair: ((), pair[1:], False) for pair in all_pairs(program)})]
    while len(rows) < many:
        rows.append(model_next(program, rows[-1]))
    return rows


def model_round(program, most=60):
    rows = model_rows(program, most)
    for last, held in enumerate(rows):
        if held in rows[:last]:
            return rows.index(held), last - rows.index(held)
    raise AssertionError("too late for the model")


def long_paper(program, first, period):
    rows = [row(program, 0)]
    while len(rows) < first + period:
        rows.append(next_row(program, rows[-1]))
    return (first, period, tuple(rows))


class Examples(unittest.TestCase):
    def test_examples_of_the_document(self):
        check_examples(self, EXAMPLES, NAMES)


class Interface(unittest.TestCase):
    def test_all_is_defined_in_its_place(self):
        names = "program first period rows limits_of limits_where __init__ __getitem__ __contains__ __len__ __eq__ __str__"
        for name in names.split():
            self.assertIn(name, vars(Rounds))
        for call in (Rounds, round_paper, is_round_paper):
            self.assertEqual(call.__module__, "deepenough.know.rounds")
        self.assertEqual(list(inspect.signature(Rounds).parameters), ["program"])

    def test_it_never_changes(self):
        rounds = Rounds(DOWN)
        for name in ("program", "first", "period", "rows"):
            self.assertIs(type(raised(setattr, rounds, name, 1)), AttributeError)
        check_not_iterable(self, rounds, Rounds(TURN))

    def test_wrong_programs(self):
        for value in NO_PROGRAMS:
            check_raises(self, InvalidProgram, {}, Rounds, value)
            check_raises(self, InvalidProgram, {}, round_paper, value)
            check_raises(self, InvalidProgram, {}, is_round_paper, value, None)


class HowTheyComeRound(unittest.TestCase):
    def test_first_and_period(self):
        for program in [TURN, DOWN, ALONE, LATE_ROUND, *SMALL]:
            rounds = Rounds(program)
            self.assertEqual((rounds.first, rounds.period), model_round(program))
        for program, first, period in ((ALONE, 0, 1), (TURN, 0, 2), (DOWN, 2, 1), (ROUND_40, 0, 40), (LATE_35, 35, 1),
                                       (LATE_ROUND, 8, 24), (JUST_400, 0, 400)):
            rounds = Rounds(program)
            self.assertEqual((rounds.first, rounds.period), (first, period))
            self.assertEqual((len(rounds), str(rounds)), (first + period, f"first {first}, period {period}"))
            self.assertEqual(rounds.program, program)

    def test_rows(self):
        for program in ALL:
            rounds = Rounds(program)
            self.assertEqual(rounds.rows, tuple(model_rows(program, len(rounds))))
            self.assertEqual([list(held) for held in rounds.rows], [all_pairs(program)] * len(rounds))
            self.assertEqual(next_row(program, rounds.rows[-1]), rounds.rows[rounds.first])

    def test_a_row_of_a_limit(self):
        for program in ALL:
            rounds = Rounds(program)
            for limit in (0, 1, 2, 3, 38, 41, 399, 400, 10 ** 39, LONG, None):
                self.assertEqual(rounds[limit], row(program, limit))
            self.assertEqual(rounds[None], model_limitless(program))
        for value in NO_LIMITS:
            check_raises(self, InvalidLimit, {}, lambda limit: Rounds(TURN)[limit], value)

    def test_what_is_returned_is_new(self):
        rounds = Rounds(LATE_ROUND)
        kept = long_paper(LATE_ROUND, 8, 24)[2]
        for held in (*rounds.rows, *round_paper(LATE_ROUND)[2], rounds[3], rounds[None]):
            held.clear()
        self.assertEqual((rounds.rows, rounds[3], rounds[10 ** 39 + 8]), (kept, kept[3], row(LATE_ROUND, 10 ** 39 + 8)))
        self.assertEqual(rounds[None], model_limitless(LATE_ROUND))

    def test_too_late(self):
        for program in (JUST_401, ROUND_630):
            check_raises(self, TooMany, {"limit": 400}, Rounds, program)
            check_raises(self, TooMany, {"limit": 400}, round_paper, program)
        self.assertEqual(len(Rounds(JUST_400)), 400)

    def test_equal(self):
        self.assertEqual(Rounds(TURN), Rounds(Program.of(TURN.modes, TURN.starts, TURN.procedures)))
        self.assertIs(Rounds(TURN) != Rounds(TURN), False)
        for other in (Rounds(DOWN), Rounds(TURN.with_starts((1,)))):
            self.assertIs(Rounds(TURN) == other, False)
            self.assertIs(Rounds(TURN) != other, True)
        for value in [*VALUES, TURN, "first 0, period 2", round_paper(TURN)]:
            self.assertIs(Rounds(TURN) == value, False)
            self.assertIs(value == Rounds(TURN), False)


class SetsOfLimits(unittest.TestCase):
    def test_limits_of_a_row(self):
        for program in ALL:
            rounds = Rounds(program)
            for number, held in enumerate(rounds.rows):
                found = rounds.limits_of(held)
                self.assertIsInstance(found, Limits)
                self.assertEqual([one for one in range(130) if one in found],
                                 [one for one in range(130) if row(program, one) == held])
                self.assertIn(number, found)
        self.assertEqual(str(Rounds(DOWN).limits_of(row(DOWN, 1))), "1")
        self.assertEqual(str(Rounds(LATE_ROUND).limits_of(row(LATE_ROUND, 30))), "30+24k")
        self.assertEqual(str(Rounds(LATE_ROUND).limits_of(row(LATE_ROUND, 7))), "7")

    def test_rows_that_no_limit_has(self):
        never = {("p", mode): ((0, 1), (0, 1), True) for mode in (0, 1)}
        self.assertEqual(Rounds(TURN).limits_of(never), Limits.none())
        self.assertEqual(Rounds(TURN).limits_of(row(TURN, None)), Limits.none())
        self.assertEqual(Rounds(DOWN).limits_of(row(DOWN, None)), Limits.since(2))

    def test_keys_in_another_order(self):
        held = Rounds(LATE_ROUND)[5]
        turned = {key: held[key] for key in reversed(list(held))}
        self.assertEqual(str(Rounds(LATE_ROUND).limits_of(turned)), "5")
        self.assertIn(turned, Rounds(LATE_ROUND))

    def test_wrong_rows(self):
        triple = ((1,), (), False)
        wrong = [row(DOWN, 0), {("p", 0): triple}, {("p", False): triple, ("p", True): triple},
                 {("p", 0): triple, ("p", 1): list(triple)}, {("p", 0): triple, ("p", 1): ((1,), (), 0)}]
        for value in [*VALUES, *wrong]:
            check_raises(self, InvalidRow, {}, Rounds(TURN).limits_of, value)
            self.assertIs(value in Rounds(TURN), False)

    def test_in(self):
        for program in ALL:
            rounds = Rounds(program)
            for held in rounds.rows:
                self.assertIs(held in rounds, True)
            self.assertIs(row(program, None) in rounds, row(program, None) in rounds.rows)
        self.assertIs(row(DOWN, None) in Rounds(DOWN), True)
        # It is equal to a row in Python's eyes, but 0 is no boolean.
        like = {pair: (leaves, fails, 0) for pair, (leaves, fails, _) in row(TURN, 0).items()}
        self.assertEqual(like, row(TURN, 0))
        self.assertIs(like in Rounds(TURN), False)

    def test_limits_where(self):
        for program in ALL:
            for pair in all_pairs(program)[:3]:
                found = Rounds(program).limits_where(lambda some: some[pair][0] == ())
                self.assertEqual([one for one in range(130) if one in found],
                                 [one for one in range(130) if row(program, one)[pair][0] == ()])
            self.assertEqual(Rounds(program).limits_where(lambda some: True), Limits.every())
            self.assertEqual(Rounds(program).limits_where(lambda some: False), Limits.none())

    def test_the_call_may_change_what_it_gets(self):
        rounds = Rounds(LATE_ROUND)
        kept = rounds.rows

        def spoil(some):
            found = some["p", 0][1] == ()
            some.clear()
            some["p", 0] = None
            return found

        first = rounds.limits_where(spoil)
        self.assertEqual(rounds.limits_where(spoil), first)
        self.assertEqual(rounds.rows, kept)
        self.assertEqual(row(LATE_ROUND, 3), kept[3])

    def test_errors_of_the_call(self):
        self.assertIs(type(raised(Rounds(TURN).limits_where, lambda some: some["q", 0])), KeyError)


class Papers(unittest.TestCase):
    def test_the_least_ones(self):
        for program in ALL:
            rounds = Rounds(program)
            paper = round_paper(program)
            self.assertEqual(paper, (rounds.first, rounds.period, rounds.rows))
            self.assertEqual((type(paper), type(paper[2])), (tuple, tuple))
            self.assertIs(is_round_paper(program, paper), True)

    def test_other_firsts_and_periods(self):
        for program in (TURN, DOWN, ALONE, LATE_ROUND, ROUND_40):
            low, span = Rounds(program).first, Rounds(program).period
            for first in range(max(0, low - 2), low + 4):
                for period in (span - 1, span, span + 1, 2 * span, 3 * span, 3 * span + 1, 12 * span):
                    if period > 0:
                        right = first >= low and period % span == 0
                        self.assertIs(is_round_paper(program, long_paper(program, first, period)), right)

    def test_long_papers(self):
        self.assertIs(is_round_paper(TURN, long_paper(TURN, 301, 500)), True)
        self.assertIs(is_round_paper(TURN, long_paper(TURN, 301, 501)), False)
        for first, period, right in ((0, 630, True), (3, 630, True), (0, 629, False), (0, 1260, True), (0, 400, False)):
            self.assertIs(is_round_paper(ROUND_630, long_paper(ROUND_630, first, period)), right)
        for first, period, right in ((1, 400, True), (0, 400, False), (2, 400, True), (1, 399, False)):
            self.assertIs(is_round_paper(JUST_401, long_paper(JUST_401, first, period)), right)
        # That a judge has looked further does not change what is too many.
        for program in (ROUND_630, JUST_401):
            check_raises(self, TooMany, {"limit": 400}, Rounds, program)
            check_raises(self, TooMany, {"limit": 400}, row, program, 400)
        self.assertIs(is_round_paper(JUST_400, round_paper(JUST_400)), True)

    def test_rows_with_their_keys_in_another_order(self):
        first, period, rows = round_paper(LATE_ROUND)
        turned = tuple({key: held[key] for key in reversed(list(held))} for held in rows)
        self.assertIs(is_round_paper(LATE_ROUND, (first, period, turned)), True)

    def test_other_values(self):
        first, period, rows = round_paper(DOWN)
        wrong = [(first, period), (first, period, rows, None), [first, period, rows], (first, period, list(rows)),
                 (first, period, rows[:-1]), (first, period, (*rows, rows[-1])), (first, period, (rows[1], *rows[1:])),
                 (first, period, ()), (0, 0, ()), (3, 0, rows), (0, 3, rows), (1, 2, rows), (first, period, None),
                 (first, period, (*rows[:2], row(TURN, 0))), (first, period, (*rows[:2], None)), (2, 1, rows[0]),
                 (first, True, rows), (LONG, 1, rows), (2, LONG, rows), (-1, 4, rows), (4, -1, rows),
                 (first, period, (rows[0], rows[2], rows[1])), (first, period, rows[::-1])]
        for value in [*VALUES, *wrong]:
            self.assertIs(is_round_paper(DOWN, value), False, value)
        for value in NO_INTEGERS:
            self.assertIs(is_round_paper(DOWN, (value, period, rows)), False)
            self.assertIs(is_round_paper(DOWN, (first, value, rows)), False)
        self.assertIs(is_round_paper(ALONE, (False, True, round_paper(ALONE)[2])), False)
        self.assertIs(is_round_paper(ALONE, (0, 1, round_paper(ALONE)[2])), True)
        self.assertIs(is_round_paper(JUST_401, (0, 1, (row(JUST_401, 0),))), False)
        self.assertIs(is_round_paper(TURN, round_paper(DOWN)), False)

    def test_booleans_are_no_modes_and_numbers_no_booleans(self):
        rows = round_paper(TURN)[2]
        self.assertEqual(rows[0], {("p", 0): ((1,), (), False), ("p", 1): ((0,), (), False)})
        falls = Program(2, (0,), Procedure("p", 1, ("fail", 0, (0, 1))))
        held = round_paper(falls)[2]
        for program, right, wrong in (
                (TURN, rows, {("p", False): ((1,), (), False), ("p", 1): ((0,), (), False)}),
                (TURN, rows, {("p", 0): ((1,), (), False), ("p", True): ((0,), (), False)}),
                (TURN, rows, {("p", 0): ((True,), (), False), ("p", 1): ((0,), (), False)}),
                (TURN, rows, {("p", 0): ((1,), (), False), ("p", 1): ((False,), (), False)}),
                (TURN, rows, {("p", 0): ((1,), (), 0), ("p", 1): ((0,), (), False)}),
                (falls, held, {("p", 0): ((), (False,), False), ("p", 1): ((), (1,), False)}),
                (falls, held, {("p", 0): ((), (0,), False), ("p", 1): ((), (True,), False)}),
                (falls, held, {("p", 0): ((), (0,), False), ("p", 1): ((), (1,), 0)})):
            self.assertEqual(wrong, right[0])
            paper = round_paper(program)
            self.assertIs(is_round_paper(program, paper), True)
            self.assertIs(is_round_paper(program, (*paper[:2], (wrong, *right[1:]))), False)

    def test_each_single_row_counts(self):
        first, period, rows = round_paper(LATE_ROUND)
        for number in range(len(rows)):
            wrong = dict(rows[number])
            leaves, fails, endless = wrong["q", 1]
            wrong["q", 1] = (leaves, fails, not endless)
            self.assertIs(is_round_paper(LATE_ROUND, (first, period, (*rows[:number], wrong, *rows[number + 1:]))), False)


if __name__ == "__main__":
    unittest.main()
