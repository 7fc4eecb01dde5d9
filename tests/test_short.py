"""[0.14] and stage 9: short runs."""

import unittest

from deepenough.base.programs import Procedure, Program
from deepenough.errors import InvalidLimit, InvalidOperation, InvalidProgram, TooMany
from deepenough.give.ends import outcome
from deepenough.give.short import least_steps, short_run, steps_table
from deepenough.know.rows import row
from deepenough.run.runs import Run

from helper import (DOWN, JUST_401, LATE_35, LONG, NO_LIMITS, NO_PROGRAMS, ROUND_40, ROUND_630, STEPS_1000, STEPS_1001,
                    TURN, VALUES, all_pairs, check_examples, check_raises, entered, model_steps, raised, some_programs)

EXAMPLES = """
>>> [least_steps(TURN, 0, ("left", 1)), least_steps(TURN, 2, ("left", 1)), least_steps(TURN, 2, ("left", 0)), short_run(DOWN, 0, ("failed", 1)).choices]
[3, 9, None, (0, 0)]
>>> [steps_table(DOWN, 1)[("p", 1)], steps_table(DOWN, 0)[("p", 1)], steps_table(TURN, None)[("p", 0)]]
[{('left', 0): 4}, {('failed', 0): 2}, {}]
"""

NAMES = {"TURN": TURN, "DOWN": DOWN, "least_steps": least_steps, "short_run": short_run, "steps_table": steps_table}
SMALL = some_programs(61, 60, points=4, moves=7)
LEFT, FAILED = ("left", 0), ("failed", 0)

# Each call calls twice more: the steps double with each limit.
TWICE = Program(1, (0,), Procedure("p", 3, ("call", 0, 1, "p", (0,), 1), ("call", 1, 2, "p", (0,), 2), ("leave", 2, (0,))))

# It is left only by a fall through several calls, or by a way round that is longer.
ROUNDABOUT = Program(2, (0,), Procedure("p", 8, ("call", 0, 1, "q", (0,), 2), ("leave", 1, (0,)), ("leave", 2, (1,)),
                                        ("go", 0, 3, ((0, 0),)), ("go", 3, 4, ((0, 0),)), ("go", 4, 5, ((0, 0),)),
                                        ("go", 5, 6, ((0, 1),)), ("go", 6, 2, ((1, 1),))),
                     Procedure("q", 3, ("go", 0, 1, ((0, 1),)), ("call", 1, 2, "r", (1,), None), ("leave", 2, (1,))),
                     Procedure("r", 1, ("fail", 0, (1,))))


def all_ends(program):
    return [(word, mode) for word in ("failed", "left") for mode in range(program.modes)]


class Examples(unittest.TestCase):
    def test_examples_of_the_document(self):
        check_examples(self, EXAMPLES, NAMES)

    def test_each_is_defined_in_its_file(self):
        for call in (least_steps, short_run, steps_table):
            self.assertEqual(call.__module__, "deepenough.give.short")


class AtLimits(unittest.TestCase):
    def test_all_situations_at_small_limits(self):
        for program in [TURN, DOWN, TWICE, ROUNDABOUT, *SMALL]:
            for limit in (0, 1, 2, 3):
                told = model_steps(program, limit)
                for end in all_ends(program):
                    self.assertEqual(least_steps(program, limit, end), told.get(end))

    def test_tables(self):
        for program in [TURN, DOWN, TWICE, ROUNDABOUT, *SMALL[:40]]:
            for limit in (0, 1, 2, 3):
                found = steps_table(program, limit)
                self.assertEqual(list(found), all_pairs(program))
                for pair, told in found.items():
                    self.assertEqual(told, model_steps(entered(program, *pair), limit))
                    self.assertEqual(list(told), sorted(told))

    def test_tables_tell_the_ends_that_rows_tell(self):
        for program in [ROUND_40, LATE_35, ROUND_630, JUST_401, *SMALL]:
            for limit in (0, 1, 7, 34, 35, 36, 60, None):
                held = row(program, limit)
                for pair, told in steps_table(program, limit).items():
                    ends = [*[("failed", mode) for mode in held[pair][1]], *[("left", mode) for mode in held[pair][0]]]
                    self.assertEqual(list(told), ends)

    def test_short_runs(self):
        for program in [TURN, DOWN, TWICE, ROUNDABOUT, ROUND_40, *SMALL]:
            for limit in (0, 1, 3, 9, None):
                for end in all_ends(program):
                    many = least_steps(program, limit, end)
                    if many is not None and many > 1000:
                        check_raises(self, TooMany, {"limit": 1000}, short_run, program, limit, end)
                        continue
                    run = short_run(program, limit, end)
                    if many is None:
                        self.assertIsNone(run)
                    else:
                        self.assertIs(type(run), Run)
                        self.assertEqual((len(run), run.ended, run.mode, run.bound), (many, *end, limit))
                        self.assertEqual(run.program, program)

    def test_a_way_round(self):
        self.assertEqual([least_steps(ROUNDABOUT, limit, ("left", 1)) for limit in (0, 1, 2, None)], [6, 4, 5, 5])
        self.assertEqual(short_run(ROUNDABOUT, 0, ("left", 1)).choices, (1, 0, 0, 0, 0, 0))
        self.assertEqual(short_run(ROUNDABOUT, 1, ("left", 1)).choices, (0, 0, 0, 0))
        self.assertEqual(short_run(ROUNDABOUT, 2, ("left", 1)).choices, (0, 0, 0, 0, 0))

    def test_the_best_start(self):
        program = Program(2, (0, 1), Procedure("p", 3, ("go", 0, 1, ((0, 0),)), ("go", 1, 2, ((0, 1), (1, 1))),
                                               ("go", 0, 2, ((1, 1),)), ("leave", 2, (1,))))
        self.assertEqual(least_steps(program, 0, ("left", 1)), 2)
        self.assertEqual(short_run(program, 0, ("left", 1)), Run(program, 0, 1, 0, 0))
        self.assertEqual(least_steps(program.with_starts((0,)), 0, ("left", 1)), 3)

    def test_long_runs(self):
        self.assertEqual([least_steps(TWICE, limit, LEFT) for limit in (0, 1, 2, 59, 60)],
                         [3, 9, 21, 3 * (2 ** 60 - 1), 3 * (2 ** 61 - 1)])
        self.assertEqual(len(short_run(TWICE, 7, LEFT)), 765)
        for limit in (8, 30, 60):
            check_raises(self, TooMany, {"limit": 1000}, short_run, TWICE, limit, LEFT)
        self.assertEqual(len(short_run(STEPS_1000, 60, LEFT)), 1000)
        self.assertEqual(len(short_run(STEPS_1000, None, LEFT)), 1000)
        self.assertEqual(least_steps(STEPS_1001, None, LEFT), 1001)
        for limit in (5, 60, None):
            check_raises(self, TooMany, {"limit": 1000}, short_run, STEPS_1001, limit, LEFT)
        self.assertIsNone(short_run(STEPS_1001, 4, LEFT))
        self.assertEqual(short_run(STEPS_1001, 4, FAILED).refused, 1)

    def test_each_limit_of_turn(self):
        for limit in range(0, 61):
            mode = 1 - limit % 2
            self.assertEqual(least_steps(TURN, limit, ("left", mode)), 3 + 3 * limit)
            self.assertIsNone(least_steps(TURN, limit, ("left", 1 - mode)))


class WithoutALimit(unittest.TestCase):
    def test_no_run_is_shorter(self):
        for program in [TURN, DOWN, ROUNDABOUT, *[one for one in SMALL if sum(map(len, one.procedures)) < 15]]:
            told = model_steps(program, None, 7)
            for end in all_ends(program):
                many = least_steps(program, None, end)
                self.assertEqual(told.get(end), many if many is not None and many <= 7 else None)

    def test_as_at_a_limit_that_is_never_met(self):
        for program in SMALL:
            for end in all_ends(program):
                run = short_run(program, None, end)
                if run is not None and run.deepest < 60:
                    self.assertEqual(run.at(60).situation, run.situation)
                    self.assertLessEqual(least_steps(program, 60, end), len(run))

    def test_ends_that_are_not_there(self):
        for program in [TURN, DOWN, TWICE, *SMALL]:
            leaves, fails, _ = outcome(program, None)
            for end in all_ends(program):
                there = end[1] in (leaves if end[0] == "left" else fails)
                self.assertIs(least_steps(program, None, end) is not None, there)
        self.assertEqual(steps_table(TWICE, None), {("p", 0): {}})


class Arguments(unittest.TestCase):
    def test_what_is_returned_is_new(self):
        kept = steps_table(DOWN, 1)
        found = steps_table(DOWN, 1)
        found["p", 1].clear()
        found.clear()
        self.assertEqual(steps_table(DOWN, 1), kept)

    def test_limits_60_and_61(self):
        for call, more in ((least_steps, (LEFT,)), (short_run, (LEFT,)), (steps_table, ())):
            for limit in (0, 59, 60, None):
                self.assertIsNone(raised(call, DOWN, limit, *more))
            for limit in (*NO_LIMITS, 61, 62, 400, 10 ** 39, LONG):
                check_raises(self, InvalidLimit, {}, call, DOWN, limit, *more)

    def test_in_their_order(self):
        for value in NO_PROGRAMS:
            check_raises(self, InvalidProgram, {}, least_steps, value, 61, None)
            check_raises(self, InvalidProgram, {}, short_run, value, 61, None)
            check_raises(self, InvalidProgram, {}, steps_table, value, 61)
        wrong = [*VALUES, ("left",), ("left", 0, 0), ["left", 0], ("left", 3), ("left", -1), ("left", True), (LEFT,),
                 ("left", None), ("Left", 0), ("fails", 0), (0, "left"), (["left"], 0), ("left", (0,)), ("left", LONG)]
        for value in wrong:
            for call in (least_steps, short_run):
                check_raises(self, InvalidLimit, {}, call, DOWN, 61, value)
                check_raises(self, InvalidOperation, {}, call, DOWN, 60, value)
                check_raises(self, InvalidOperation, {}, call, DOWN, None, value)


if __name__ == "__main__":
    unittest.main()
