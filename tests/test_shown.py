"""[0.6], [0.18], [0.19], [0.22], [11.1] and stage 11: papers of signs, and short runs that show a sign."""

import unittest

from deepenough.ask.shown import is_sign_paper, sign_paper, sign_run
from deepenough.ask.signs import shows, sign_limits, truths
from deepenough.base.programs import Procedure, Program
from deepenough.errors import InvalidLimit, InvalidProgram, InvalidSign, TooMany
from deepenough.know.rounds import Rounds
from deepenough.know.rows import row
from deepenough.run.runs import Run

from helper import (DOWN, JUST_400, JUST_401, LATE_35, LONG, NEGATIVE, NO_INTEGERS, NO_PROGRAMS, ROUND_40, ROUND_630,
                    STEPS_1000, STEPS_1001, STEPS_1002, TURN, VALUES, all_signs, check_examples, check_raises,
                    model_sign_steps, model_signs_in, model_steps_from, raised, rows_of, some_programs)

EXAMPLES = """
>>> DEEP = ("place", "p", 2, 0)
>>> [sign_limits(TURN, DEEP).first, sign_run(TURN, 1, DEEP).choices, sign_run(TURN, 0, DEEP), sign_run(TURN, 0, ("catch", ("p", 0))).choices]
[1, (0, 0, 0, 0, 0), None, (0,)]
>>> [sign_paper(TURN, ("full",))[:2], sign_paper(TURN, ("full",))[3], is_sign_paper(TURN, ("full",), (0, 1, (row(TURN, 0),), ((("p", 0), ("p", 1)),)))]
[(0, 2), ((("p", 0), ("p", 1)), (("p", 0), ("p", 1))), False]
"""

NAMES = {"TURN": TURN, "sign_limits": sign_limits, "sign_run": sign_run, "sign_paper": sign_paper,
         "is_sign_paper": is_sign_paper, "row": row}
SMALL = some_programs(111, 60, points=4, moves=7)
FULL = ("full",)

# A fall through q and r is caught by main; the call in q does not catch.
FALLS = Program(2, (0, 1), Procedure("main", 3, ("call", 0, 1, "q", (0, 1), 2), ("leave", 1, (0, 1)), ("fail", 2, (1,))),
                Procedure("q", 2, ("call", 0, 1, "r", (0,), None), ("leave", 1, (0, 1)), ("leave", 0, (1,))),
                Procedure("r", 2, ("go", 0, 1, ((0, 1),)), ("fail", 1, (1,)), ("leave", 0, (0,))))

# All rows are equal, but the truths come round later.
CHAIN = Program(1, (0,), *[Procedure(name, 1, ("call", 0, 0, other, (0,), 0)) for name, other in ("ab", "bc", "cd", "de")],
                Procedure("e", 1, ("go", 0, 0, ((0, 0),))))

ALL = [TURN, DOWN, FALLS, CHAIN, ROUND_40, *SMALL]


def long_paper(program, sign, first, period):
    """What a sign paper with this first and this period has, right or not."""
    held = tuple(truths(program, number, sign) for number in range(first + period))
    return (first, period, rows_of(program, first + period), held)


def model_round(program, sign, most=130):
    """First and period of rows and truths together."""
    pairs = []
    for number in range(most):
        held = (row(program, number), truths(program, number, sign))
        if held in pairs:
            return pairs.index(held), number - pairs.index(held)
        pairs.append(held)
    raise AssertionError("too late for the model")


def signs_at_the_end(program, limit, run):
    """The signs that the last situation and the last step of a run show."""
    found = model_signs_in(run.situation, limit)
    if len(run) > 0:
        found = found + model_steps_from(program, limit, run.situations[-2])[run.choices[-1]][1]
    return found


class Examples(unittest.TestCase):
    def test_examples_of_the_document(self):
        check_examples(self, EXAMPLES, NAMES)

    def test_each_is_defined_in_its_file(self):
        for call in (sign_paper, is_sign_paper, sign_run):
            self.assertEqual(call.__module__, "deepenough.ask.shown")


class Papers(unittest.TestCase):
    def test_papers(self):
        for program in ALL:
            for sign in all_signs(program)[:60]:
                paper = sign_paper(program, sign)
                self.assertEqual((type(paper), type(paper[2]), type(paper[3])), (tuple, tuple, tuple))
                self.assertEqual(paper[:2], model_round(program, sign))
                self.assertEqual(paper, long_paper(program, sign, *paper[:2]))
                self.assertIs(is_sign_paper(program, sign, paper), True)

    def test_a_judge_that_has_been_asked_nothing_before(self):
        for program in ALL[:20]:
            for sign in all_signs(program)[::4]:
                paper = sign_paper(program, sign)
                fresh = Program.of(program.modes, program.starts, program.procedures)
                self.assertIs(is_sign_paper(fresh, sign, paper), True)
                fresh = Program.of(program.modes, program.starts, program.procedures)
                longer = long_paper(program, sign, paper[0] + 1, 2 * paper[1])
                self.assertIs(is_sign_paper(fresh, sign, longer), True)

    def test_truths_that_come_round_behind_the_rows(self):
        self.assertEqual((Rounds(CHAIN).first, Rounds(CHAIN).period), (0, 1))
        for name, first in (("a", 1), ("b", 2), ("c", 3), ("d", 4)):
            self.assertEqual(sign_paper(CHAIN, ("enter", (name, 0)))[:2], (first, 1))
        # The rows come round, but the truths do not yet.
        for first in (0, 1, 2, 3):
            paper = long_paper(CHAIN, ("enter", ("d", 0)), first, 1)
            self.assertIs(is_sign_paper(CHAIN, ("enter", ("d", 0)), paper), False)
        self.assertEqual(sign_paper(LATE_35, ("place", "u", 0, 5))[:2], (35, 1))

    def test_papers_that_begin_later_or_go_round_once_more(self):
        for program, sign in ((TURN, FULL), (TURN, ("place", "p", 2, 1)), (DOWN, FULL), (CHAIN, ("enter", ("c", 0))),
                              (ROUND_40, ("over", ("q", 1))), (FALLS, ("over", ("q", 0)))):
            low, span = sign_paper(program, sign)[:2]
            for first in range(max(0, low - 2), low + 4):
                for period in (span - 1, span, span + 1, 2 * span, 3 * span, 3 * span + 1, 7 * span):
                    if period > 0:
                        right = first >= low and period % span == 0
                        self.assertIs(is_sign_paper(program, sign, long_paper(program, sign, first, period)), right)

    def test_first_plus_period_at_most_400(self):
        for program, sign in ((TURN, FULL), (TURN, ("place", "p", 2, 1)), (DOWN, FULL), (ROUND_40, ("enter", ("p", 1)))):
            low, span = sign_paper(program, sign)[:2]
            for first, period in ((400 - span, span), (400 - 4 * span, 4 * span), (401 - span, span), (399, 1), (400, 1),
                                  (401 - 4 * span, 4 * span), (360, 40), (361, 40), (0, 400), (1, 400), (400, span)):
                right = first >= low and period % span == 0 and first + period <= 400
                self.assertIs(is_sign_paper(program, sign, long_paper(program, sign, first, period)), right)
        place = ("place", "u", 0, 5)
        self.assertEqual(sign_paper(JUST_400, place)[:2], (0, 400))
        self.assertIs(is_sign_paper(JUST_400, place, sign_paper(JUST_400, place)), True)

    def test_more_than_400(self):
        for program, sign in ((JUST_401, FULL), (ROUND_630, ("place", "p", 0, 0)), (JUST_400, FULL)):
            for _ in range(2):
                check_raises(self, TooMany, {"limit": 400}, sign_paper, program, sign)
                rows = rows_of(program, 631)
                held = [truths(program, number, sign) for number in range(400)]
                for first, period in ((0, 400), (1, 399), (0, 1), (1, 400), (0, 630), (200, 200)):
                    paper = (first, period, rows[:first + period], tuple([*held, *held][:first + period]))
                    self.assertIs(is_sign_paper(program, sign, paper), False)
        check_raises(self, TooMany, {"limit": 400}, truths, JUST_400, 400, FULL)

    def test_each_entry_counts(self):
        for program, sign in ((CHAIN, ("over", ("b", 0))), (ROUND_40, ("place", "p", 2, 0)), (DOWN, FULL)):
            first, period, rows, held = sign_paper(program, sign)
            for number in range(first + period):
                for other in ((), held[number][1:], (*held[number], ("zz", 0)), list(held[number]), None, held[number][::-1]):
                    if other != held[number]:
                        told = (*held[:number], other, *held[number + 1:])
                        self.assertIs(is_sign_paper(program, sign, (first, period, rows, told)), False)
                wrong = dict(rows[number])
                leaves, fails, endless = wrong[program.main, 0]
                wrong[program.main, 0] = (leaves, fails, not endless)
                told = (*rows[:number], wrong, *rows[number + 1:])
                self.assertIs(is_sign_paper(program, sign, (first, period, told, held)), False)

    def test_booleans_and_lists_are_no_truths(self):
        first, period, rows, held = sign_paper(TURN, FULL)
        for other in ((("p", False), ("p", 1)), (("p", 0), ("p", True)), (["p", 0], ("p", 1)), (("p", 0), ("p", 1), ("p", 1)),
                      (("p", 1), ("p", 0)), (("p", 0),), (("p", 0, 0), ("p", 1)), ("p", 0), {("p", 0): 1, ("p", 1): 1}):
            self.assertIs(is_sign_paper(TURN, FULL, (first, period, rows, (other, held[1]))), False)
        like = {pair: (leaves, fails, 0) for pair, (leaves, fails, _) in rows[0].items()}
        self.assertIs(is_sign_paper(TURN, FULL, (first, period, (like, rows[1]), held)), False)

    def test_keys_in_another_order(self):
        for program, sign in ((ROUND_40, FULL), (TURN, FULL), (CHAIN, ("enter", ("c", 0)))):
            first, period, rows, held = sign_paper(program, sign)
            turned = tuple({key: one[key] for key in reversed(list(one))} for one in rows)
            self.assertIs(is_sign_paper(program, sign, (first, period, turned, held)), True)

    def test_papers_of_other_signs_and_programs(self):
        for sign in all_signs(FALLS):
            for other in all_signs(FALLS):
                paper = sign_paper(FALLS, other)
                low, span = sign_paper(FALLS, sign)[:2]
                same = paper == long_paper(FALLS, sign, *paper[:2]) and paper[0] >= low and paper[1] % span == 0
                self.assertIs(is_sign_paper(FALLS, sign, paper), same)
        self.assertIs(is_sign_paper(TURN, FULL, sign_paper(DOWN, FULL)), False)

    def test_other_values(self):
        for program, sign in ((DOWN, FULL), (CHAIN, ("enter", ("b", 0)))):
            first, period, rows, held = sign_paper(program, sign)
            wrong = [(first, period, rows), (first, period, rows, held, None), [first, period, rows, held],
                     (first, period, list(rows), held), (first, period, rows, list(held)), (first, period, rows[:-1], held),
                     (first, period, rows, held[:-1]), (first, period, (*rows, rows[-1]), (*held, held[-1])),
                     (first, period, (*rows, rows[-1]), held), (first, period, rows, (*held, held[-1])),
                     (first, period, held, rows), (first, period, rows, None), (first, period, None, held),
                     (0, 0, (), ()), (first + 1, 0, rows, held), (-1, first + period + 1, rows, held),
                     (first + period + 1, -1, rows, held), (first, LONG, rows, held), (LONG, period, rows, held),
                     (first, period, rows, held[::-1]), (period, first, rows, held)]
            for value in [*VALUES, *wrong]:
                self.assertIs(is_sign_paper(program, sign, value), False, value)
            for value in [*NO_INTEGERS, *NEGATIVE]:
                self.assertIs(is_sign_paper(program, sign, (value, period, rows, held)), False)
                self.assertIs(is_sign_paper(program, sign, (first, value, rows, held)), False)

    def test_what_is_returned_is_new(self):
        paper = sign_paper(ROUND_40, FULL)
        kept = [dict(held) for held in paper[2]]
        for held in paper[2]:
            held.clear()
        self.assertEqual(list(sign_paper(ROUND_40, FULL)[2]), kept)
        self.assertEqual(row(ROUND_40, 3), kept[3])


class ShortRuns(unittest.TestCase):
    def check(self, program, limit, sign, many):
        """The run for a sign has so many steps, and shows it at its end."""
        run = sign_run(program, limit, sign)
        if many is None:
            self.assertIsNone(run)
            return
        self.assertIs(type(run), Run)
        self.assertEqual((run.program, run.bound, len(run)), (program, limit, many))
        self.assertIn(sign, signs_at_the_end(program, limit, run))

    def test_all_situations_at_small_limits(self):
        for program in [TURN, DOWN, FALLS, CHAIN, *SMALL]:
            for limit in (0, 1, 2, 3, 4):
                told = model_sign_steps(program, limit)
                for sign in all_signs(program):
                    self.check(program, limit, sign, told.get(sign))

    def test_without_a_limit(self):
        for program in [TURN, DOWN, FALLS, CHAIN, *SMALL]:
            told = model_sign_steps(program, None, 7)
            for sign in all_signs(program):
                if sign in told:
                    self.check(program, None, sign, told[sign])
                else:
                    run = sign_run(program, None, sign)
                    self.assertEqual(run is None, not shows(program, None, sign))
                    self.assertTrue(run is None or len(run) > 7 and sign in signs_at_the_end(program, None, run))

    def test_a_run_shows_what_the_program_shows(self):
        for program in ALL:
            for limit in (0, 5, 17, 60, None):
                for sign in all_signs(program)[:60]:
                    error = raised(sign_run, program, limit, sign)
                    if error is not None:
                        self.assertEqual((type(error), error.limit), (TooMany, 1000))
                        self.assertIs(shows(program, limit, sign), True)
                        continue
                    run = sign_run(program, limit, sign)
                    self.assertIs(run is not None, shows(program, limit, sign))
                    if run is not None:
                        self.assertEqual(run.bound, limit)
                        self.assertIn(sign, signs_at_the_end(program, limit, run))

    def test_signs_of_all_kinds(self):
        site, bare = ("main", 0), ("q", 0)
        for limit, sign, many in (
                (0, FULL, 0), (1, FULL, 1), (2, FULL, 2), (3, FULL, None), (60, FULL, None), (None, FULL, None),
                (0, ("over", site), 1), (1, ("over", site), None), (1, ("over", bare), 2), (60, ("over", bare), None),
                (None, ("over", site), None), (0, ("enter", site), None), (1, ("enter", site), 1),
                (60, ("enter", bare), 2), (None, ("enter", bare), 2), (0, ("catch", site), 1), (1, ("catch", site), 2),
                (2, ("catch", site), 4), (60, ("catch", site), 4), (None, ("catch", site), 4),
                (0, ("place", "main", 0, 1), 0), (0, ("place", "main", 2, 1), 1), (60, ("place", "main", 2, 1), 4),
                (1, ("place", "r", 1, 1), None), (2, ("place", "r", 1, 1), 3), (None, ("place", "r", 1, 1), 3)):
            self.check(FALLS, limit, sign, many)
        # At each limit one call more is open.
        self.check(TURN, 60, FULL, 60)
        self.check(TURN, 60, ("over", ("p", 0)), 61)
        self.check(TURN, 60, ("catch", ("p", 0)), 61)
        self.check(TURN, 60, ("enter", ("p", 0)), 1)
        self.check(TURN, 60, ("place", "p", 2, 1), 62)
        self.check(TURN, None, ("place", "p", 2, 1), None)
        self.check(TURN, None, ("catch", ("p", 0)), None)
        self.check(TURN, None, ("enter", ("p", 0)), 1)

    def test_runs_that_show_a_sign_by_their_last_situation_or_step(self):
        run = sign_run(TURN, 2, FULL)
        self.assertEqual(run.situation, (0, (("p", 0), ("p", 0)), ("p", 0)))
        run = sign_run(TURN, 2, ("over", ("p", 0)))
        self.assertEqual((run.refused, run.situations[-2][1], run.situation), (1, (("p", 0), ("p", 0)), (0, (("p", 0),) * 2, ("p", 1))))
        run = sign_run(FALLS, 2, ("catch", ("main", 0)))
        self.assertEqual((run.situations[-2][2], run.situation), (("r", 1), (1, (), ("main", 2))))
        self.assertEqual(sign_run(FALLS, 2, ("place", "main", 2, 1)).situation, (1, (), ("main", 2)))

    def test_the_least_of_all_starts(self):
        far = Program(2, (0, 1), Procedure("p", 4, ("go", 0, 1, ((0, 0),)), ("go", 1, 2, ((0, 1),)), ("go", 0, 2, ((1, 1),)),
                                           ("call", 2, 3, "p", (1,), None)))
        self.assertEqual([sign_run(far, 0, ("place", "p", 2, 1)).start, sign_run(far.with_starts((0,)), 0, ("place", "p", 2, 1)).start],
                         [1, 0])
        self.check(far, 0, ("place", "p", 2, 1), 1)
        self.check(far.with_starts((0,)), 0, ("place", "p", 2, 1), 2)

    def test_a_thousand_steps_and_more(self):
        at_the_end = ("place", "p", 5, 0)
        self.check(STEPS_1000, 5, ("place", "p", 3, 0), 999)
        self.check(STEPS_1001, 60, ("place", "p", 4, 0), 1000)
        self.check(STEPS_1001, None, ("place", "p", 4, 0), 1000)
        self.assertIs(shows(STEPS_1002, 5, at_the_end), True)
        for limit in (5, 60, None):
            check_raises(self, TooMany, {"limit": 1000}, sign_run, STEPS_1002, limit, at_the_end)
            self.check(STEPS_1002, limit, ("place", "p", 4, 0), 1000)
        self.check(STEPS_1002, 4, at_the_end, None)

    def test_steps_that_are_the_thousandth(self):
        # Behind 999 steps, or one step less, main calls the last procedure, or one that fails at once.
        for program, point, steps in ((STEPS_1000, 3, 999), (STEPS_1001, 4, 1000)):
            main = program["p"]
            self.check(program, 5, ("place", "p", point, 0), steps)
            calls = Procedure("p", main.points, *main.moves, ("call", point, point, "u", (0,), None))
            enter = ("enter", ("p", len(main.moves)))
            if steps == 999:
                self.check(program.with_procedure(calls), 5, enter, 1000)
            else:
                check_raises(self, TooMany, {"limit": 1000}, sign_run, program.with_procedure(calls), 5, enter)
        # The fall is caught with the second step of the call.
        main = STEPS_1000["p"]
        shorter = Procedure("p", main.points, *main.moves, ("call", 2, 2, "u", (0,), 2))
        fails = STEPS_1000.with_procedure(shorter).with_procedure(Procedure("u", 8, *STEPS_1000["u"].moves, ("fail", 0, (0,))))
        self.check(fails, 5, ("place", "p", 2, 0), 998)
        self.check(fails, 5, ("catch", ("p", len(main.moves))), 1000)

    def test_very_many_steps(self):
        # Each call calls twice more, so the steps double with each limit.
        twice = Program(1, (0,), Procedure("m", 2, ("call", 0, 1, "p", (0,), None)),
                        Procedure("p", 3, ("call", 0, 1, "p", (0,), 1), ("call", 1, 2, "p", (0,), 2), ("leave", 2, (0,))))
        place = ("place", "m", 1, 0)
        self.check(twice, 3, place, 22)
        check_raises(self, TooMany, {"limit": 1000}, sign_run, twice, 60, place)

    def test_what_has_been_asked_before_does_not_matter(self):
        for program in [TURN, DOWN, FALLS, ROUND_40, *SMALL[:30]]:
            asked = Program.of(program.modes, program.starts, program.procedures)
            signs = all_signs(program)[::3]
            for limit in (60, None, 0, 9):
                for sign in signs:
                    raised(sign_run, asked, limit, sign)
            for limit in (2, 4, 60, None):
                for sign in signs:
                    fresh = Program.of(program.modes, program.starts, program.procedures)
                    if raised(sign_run, fresh, limit, sign) is None:
                        self.assertEqual(sign_run(asked, limit, sign), sign_run(fresh, limit, sign))

    def test_programs_whose_rows_come_round_late(self):
        for program in (JUST_401, ROUND_630):
            for limit in (0, 1, 7, 40):
                run = sign_run(program, limit, FULL)
                self.assertEqual((len(run.situation[1]), shows(program, limit, FULL)), (limit, True))


class Wrong(unittest.TestCase):
    def test_programs(self):
        for value in NO_PROGRAMS:
            check_raises(self, InvalidProgram, {}, sign_paper, value, None)
            check_raises(self, InvalidProgram, {}, is_sign_paper, value, None, None)
            check_raises(self, InvalidProgram, {}, sign_run, value, -1, None)

    def test_limits_ahead_of_signs(self):
        for value in [*[value for value in NO_INTEGERS if value is not None], *NEGATIVE, 61, 62, 400, LONG]:
            for sign in (FULL, None):
                check_raises(self, InvalidLimit, {}, sign_run, JUST_401, value, sign)

    def test_signs(self):
        wrong = [*VALUES, ("place", "p", 0, 6), ("enter", ("p", 0)), ("catch", ("p", 9)), ("over",), ("full", 0), ["full"],
                 ("place", "p", 0, True), ("place", "p", 8, 0), ("place", "none", 0, 0), ("enter", ("p", True))]
        for value in wrong:
            for limit in (0, 60, None):
                check_raises(self, InvalidSign, {}, sign_run, JUST_401, limit, value)
            check_raises(self, InvalidSign, {}, sign_paper, JUST_401, value)
            check_raises(self, InvalidSign, {}, is_sign_paper, JUST_401, value, None)

    def test_a_sign_of_a_catch_that_is_none(self):
        bare = TURN.without_catches(TURN.calls)
        for call in (lambda: sign_paper(bare, ("catch", ("p", 0))), lambda: sign_run(bare, 0, ("catch", ("p", 0))),
                     lambda: is_sign_paper(bare, ("catch", ("p", 0)), None)):
            check_raises(self, InvalidSign, {}, call)


if __name__ == "__main__":
    unittest.main()
