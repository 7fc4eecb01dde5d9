"""[0.11] to [0.14] and stage 5: situations, options and runs."""

import inspect
import random
import unittest

from deepenough.base.programs import Procedure, Program
from deepenough.errors import InvalidLimit, InvalidNumber, InvalidOperation, InvalidProgram, InvalidRun, TooMany
from deepenough.run.runs import Run, is_situation, options

from helper import (DOWN, LONG, NO_INTEGERS, NO_LIMITS, NO_PROGRAMS, NO_TUPLES, TURN, VALUES, check_examples,
                    check_not_iterable, check_raises, model_options, raised, some_programs)

EXAMPLES = """
>>> run = Run(TURN, 1, 0, 0, 0)
>>> [run.situation, options(TURN, 1, run.situation), run.refused, run.deepest, options(TURN, 0, (1, (), ("p", 0))), (run + 0 + 0).situation]
[(0, (('p', 0),), ('p', 1)), ((1, (('p', 0),), ('p', 2)),), 1, 1, ((1, (), ('p', 1)),), (1, (), ('p', 1))]
>>> [Run(DOWN, 0, 2, 0, 0).situation, Run(DOWN, 1, 2, 0, 0, 0, 0).ended, Run(DOWN, None, 2, 0, 0).at(1).bound, str(Run(DOWN, None, 2, 0, 0))]
[(1, (), 'failed'), 'failed', 1, 'run of 2 steps, 1 open calls']
"""

# Main catches what falls through q, r and r again.
MAIN = Procedure("main", 3, ("call", 0, 1, "q", (0, 1), 2), ("leave", 1, (0, 1)), ("go", 2, 2, ((0, 0), (0, 1))))
Q = Procedure("q", 2, ("call", 0, 1, "r", (0, 1), None), ("call", 0, 1, "main", (1,), 0), ("leave", 1, (0,)))
R = Procedure("r", 2, ("go", 0, 1, ((0, 1), (1, 0))), ("fail", 1, (0, 1)), ("call", 1, 1, "r", (1,), None),
              ("leave", 1, (1,)))
FALLS = Program(2, (0, 1), MAIN, Q, R)
TO_Q, TO_R, TO_MAIN, AGAIN = ("main", 0), ("q", 0), ("q", 1), ("r", 2)

# Main goes round for ever, with each mode.
WHEEL = Program(2, (0, 1), Procedure("p", 2, ("go", 0, 1, ((0, 0), (0, 1), (1, 1))), ("go", 1, 0, ((0, 0), (1, 1)))))

SITUATIONS = [(0, (), ("main", 0)), (1, (), ("main", 2)), (0, (), "left"), (1, (), "failed"), (0, (TO_Q,), ("q", 1)),
              (1, (TO_Q, TO_R), ("r", 1)), (0, (TO_Q, TO_MAIN, TO_Q, TO_R, AGAIN, AGAIN), ("r", 0)),
              (1, (TO_Q, TO_MAIN) * 500, ("main", 1))]


class Examples(unittest.TestCase):
    def test_examples_of_the_document(self):
        check_examples(self, EXAMPLES, {"TURN": TURN, "DOWN": DOWN, "Run": Run, "options": options})


class Situations(unittest.TestCase):
    def test_by_their_form(self):
        for value in SITUATIONS:
            self.assertIs(is_situation(FALLS, value), True, value)

    def test_other_values(self):
        wrong = [(2, (), ("main", 0)), (-1, (), ("main", 0)), (True, (), ("main", 0)), (None, (), ("main", 0)),
                 ("0", (), ("main", 0)), (LONG, (), ("main", 0)), ((0,), (), ("main", 0)), (0, [], ("main", 0)),
                 (0, None, ("main", 0)), (0, {}, ("main", 0)), (0, "", "left"), (0, "", ("main", 0)), (0, 0, "left"),
                 (0, (), ("q", 0)), (0, (), ("main", 3)), (0, (), ("main", -1)), (0, (), ("main", True)),
                 (0, (), ("main", None)), (0, (), ("main",)), (0, (), ("main", 0, 0)), (0, (), ["main", 0]),
                 (0, (), "main"), (0, (), None), (0, (), "ended"), (0, (), ""), (0, (), ("none", 0)), (0, (), (0, 0)),
                 (0, (), (["main"], 0)), (0, (TO_Q,), "left"), (0, (TO_Q,), "failed"), (0, (TO_Q,), ("main", 0)),
                 (0, (TO_Q,), ("r", 0)), (0, (TO_R,), ("r", 0)), (0, (TO_Q, AGAIN), ("r", 0)),
                 (0, (TO_Q, TO_Q), ("q", 0)), (0, (("main", 1),), ("q", 0)), (0, (("main", False),), ("q", 0)),
                 (0, (["main", 0],), ("q", 0)), (0, [TO_Q], ("q", 0)), (0, TO_Q, ("q", 0)), (0, (("main",),), ("q", 0)),
                 (0, (("main", 0, 0),), ("q", 0)), (0, (("main", 3),), ("q", 0)), (0, (("main", -1),), ("q", 0)),
                 (0, ((["main"], 0),), ("q", 0)), (0, (("main", [0]),), ("q", 0)), (0, (None,), ("q", 0)),
                 (0, (("main", "0"),), ("q", 0)), (0, ()), (0, (), ("main", 0), None), [0, (), ("main", 0)],
                 ((), ("main", 0)), (0, (TO_Q, TO_R), ("r", 2)), (0, (), ["left"]), (0, (), ("left",)),
                 (0, (TO_Q, TO_MAIN, TO_R), ("r", 0)), (0, ((TO_Q,),), ("q", 0)), (0, (("main", 0.0),), 0)]
        for value in [*VALUES, *wrong]:
            self.assertIs(is_situation(FALLS, value), False, value)

    def test_wrong_programs(self):
        for value in NO_PROGRAMS:
            for situation in (SITUATIONS[0], None, []):
                check_raises(self, InvalidProgram, {}, is_situation, value, situation)

    def test_each_is_defined_in_its_file(self):
        for call in (is_situation, options, Run):
            self.assertEqual(call.__module__, "deepenough.run.runs")


class Options(unittest.TestCase):
    def test_one_for_each_pair_in_their_order(self):
        self.assertEqual(options(WHEEL, 0, (0, (), ("p", 0))), ((0, (), ("p", 1)), (1, (), ("p", 1))))
        self.assertEqual(options(WHEEL, 0, (1, (), ("p", 0))), ((1, (), ("p", 1)),))

    def test_in_the_order_of_the_moves(self):
        self.assertEqual(options(FALLS, 2, (1, (TO_Q,), ("q", 0))),
                         ((1, (TO_Q, TO_R), ("r", 0)), (1, (TO_Q, TO_MAIN), ("main", 0))))
        self.assertEqual(options(FALLS, 3, (1, (TO_Q, TO_R), ("r", 1))),
                         ((1, (), ("main", 2)), (1, (TO_Q, TO_R, AGAIN), ("r", 0)), (1, (TO_Q,), ("q", 1))))

    def test_a_fall_through_several_calls_is_one_step(self):
        deep = (TO_Q, TO_MAIN, TO_Q, TO_R, AGAIN, AGAIN)
        self.assertEqual(options(FALLS, None, (1, deep, ("r", 1)))[0], (1, deep[:2], ("main", 2)))
        self.assertEqual(options(FALLS, None, (0, deep[:2], ("main", 0)))[0], (0, deep[:3], ("q", 0)))

    def test_a_call_too_many_falls_at_once(self):
        self.assertEqual(options(FALLS, 2, (1, (TO_Q, TO_R), ("r", 1)))[1], (1, (), ("main", 2)))
        self.assertEqual(options(FALLS, 1, (1, (TO_Q,), ("q", 0))), ((1, (), ("main", 2)), (1, (TO_Q,), ("q", 0))))
        self.assertEqual(options(FALLS, 0, (0, (), ("main", 0))), ((0, (), ("main", 2)),))
        bare = FALLS.without_catches(FALLS.calls)
        self.assertEqual(options(bare, 2, (1, (TO_Q, TO_R), ("r", 1)))[:2], ((1, (), "failed"), (1, (), "failed")))
        self.assertEqual(options(bare, 0, (0, (), ("main", 0))), ((0, (), "failed"),))

    def test_leaving(self):
        self.assertEqual(options(FALLS, 5, (0, (TO_Q,), ("q", 1))), ((0, (), ("main", 1)),))
        self.assertEqual(options(FALLS, 5, (0, (), ("main", 1))), ((0, (), "left"),))

    def test_none(self):
        for situation in ((0, (), "left"), (1, (), "failed"), (1, (TO_Q,), ("q", 1)), (1, (), ("main", 2))):
            self.assertEqual(options(FALLS, 3, situation), ())

    def test_equal_moves_give_equal_options(self):
        twice = Program(1, (0,), Procedure("p", 1, *[("leave", 0, (0,))] * 3, *[("go", 0, 0, ((0, 0),))] * 2))
        self.assertEqual(options(twice, 0, (0, (), ("p", 0))), ((0, (), "left"),) * 3 + ((0, (), ("p", 0)),) * 2)

    def test_situations_to_which_no_run_comes(self):
        situation = (1, (("p", 0),) * 1001, ("p", 0))
        self.assertEqual(options(TURN, 1001, situation), ((1, (("p", 0),) * 1001, ("p", 1)),))
        self.assertEqual(options(TURN, 10 ** 39, situation), ((1, (("p", 0),) * 1002, ("p", 0)),))
        self.assertEqual(options(TURN, None, situation), options(TURN, LONG, situation))

    def test_against_the_model(self):
        chance = random.Random(7)
        for program in some_programs(8, 40, procedures=4, moves=12):
            for limit in (0, 1, 2, 4, 10 ** 39, None):
                situation = (chance.choice(program.starts), (), (program.main, 0))
                for _ in range(12):
                    found = options(program, limit, situation)
                    self.assertEqual(list(found), model_options(program, limit, situation))
                    self.assertTrue(all(is_situation(program, one) for one in found))
                    if not found:
                        break
                    situation = chance.choice(found)

    def test_wrong_arguments(self):
        for value in NO_PROGRAMS:
            check_raises(self, InvalidProgram, {}, options, value, True, None)
        for value in NO_LIMITS:
            check_raises(self, InvalidLimit, {}, options, FALLS, value, None)
        for value in VALUES:
            check_raises(self, InvalidOperation, {}, options, FALLS, 3, value)
        check_raises(self, InvalidOperation, {}, options, FALLS, 3, (0, [], ("main", 0)))

    def test_more_open_calls_than_the_limit_lets(self):
        for situation in SITUATIONS:
            many = len(situation[1])
            self.assertIsNone(raised(options, FALLS, many, situation))
            if many > 0:
                check_raises(self, InvalidOperation, {}, options, FALLS, many - 1, situation)
                check_raises(self, InvalidOperation, {}, options, FALLS, 0, situation)


class Runs(unittest.TestCase):
    def test_what_it_tells(self):
        run = Run(FALLS, 2, 0, 0, 0, 0, 1)
        self.assertEqual((run.program, run.bound, run.start, run.choices), (FALLS, 2, 0, (0, 0, 0, 1)))
        self.assertEqual(run.situations, ((0, (), ("main", 0)), (0, (TO_Q,), ("q", 0)), (0, (TO_Q, TO_R), ("r", 0)),
                                          (1, (TO_Q, TO_R), ("r", 1)), (1, (), ("main", 2))))
        self.assertEqual((run.situation, run.mode, run.ended), ((1, (), ("main", 2)), 1, None))
        self.assertEqual((run.deepest, run.refused, len(run)), (2, 1, 4))
        self.assertEqual(str(run), "run of 4 steps, 0 open calls")
        self.assertEqual(str(run.back()), "run of 3 steps, 2 open calls")

    def test_before_the_first_step(self):
        run = Run(FALLS, 0, 1)
        self.assertEqual((run.choices, run.situations, run.mode, run.ended), ((), ((1, (), ("main", 0)),), 1, None))
        self.assertEqual((run.deepest, run.refused, len(run), str(run)), (0, 0, 0, "run of 0 steps, 0 open calls"))

    def test_ends(self):
        left, failed = Run(DOWN, 2, 2, 0, 0, 0, 0, 0, 0, 0), Run(DOWN, 1, 2, 0, 0, 0, 0)
        self.assertEqual((left.ended, left.situation, left.mode), ("left", (0, (), "left"), 0))
        self.assertEqual((failed.ended, failed.situation, failed.mode), ("failed", (0, (), "failed"), 0))
        self.assertEqual((failed.refused, failed.deepest, left.refused, left.deepest), (1, 1, 0, 2))
        for run in (left, failed):
            for index in (0, 1):
                check_raises(self, InvalidOperation, {}, lambda one, more: one + more, run, index)

    def test_refused_calls(self):
        run = Run(TURN, 0, 0, 0, 0)
        self.assertEqual((run.refused, run.deepest), (1, 0))
        again = Program(1, (0,), Procedure("p", 1, ("call", 0, 0, "p", (0,), 0), ("go", 0, 0, ((0, 0),))))
        self.assertEqual(Run(again, 0, 0, 0, 1, 0, 0).refused, 3)
        self.assertEqual([Run(again, limit, 0, *[0] * 5).refused for limit in (0, 1, 2, 5, 6, None)], [5, 4, 3, 0, 0, 0])
        self.assertEqual([Run(again, limit, 0, *[0] * 5).deepest for limit in (0, 1, 2, 5, 6, None)], [0, 1, 2, 5, 5, 5])

    def test_one_step_more(self):
        run = Run(WHEEL, 3, 0)
        kept = run
        run = run + 1
        run = run + 0
        self.assertEqual(run, Run(WHEEL, 3, 0, 1, 0))
        self.assertEqual((run.situations, run.mode), (Run(WHEEL, 3, 0, 1, 0).situations, 1))
        self.assertEqual((len(kept), kept.choices, kept.situations), (0, (), ((0, (), ("p", 0)),)))
        run += 0
        self.assertEqual((len(run), run.mode), (3, 1))

    def test_steps_one_by_one_are_the_whole_run(self):
        chance = random.Random(3)
        for program in some_programs(5, 40, procedures=4, moves=12):
            for limit in (0, 1, 3, None):
                run = Run(program, limit, program.starts[-1])
                while len(run) < 15 and (found := options(program, limit, run.situation)):
                    run = run + chance.randrange(len(found))
                    whole = Run(program, limit, program.starts[-1], *run.choices)
                    self.assertEqual(run, whole)
                    for name in "situation situations mode ended deepest refused".split():
                        self.assertEqual(getattr(run, name), getattr(whole, name))
                    self.assertEqual(run.situation, run.situations[-1])
                    self.assertEqual(run.situations[-2:-1], (run.back().situation,))
                    self.assertEqual(run.deepest, max(len(one[1]) for one in run.situations))
                    self.assertEqual((str(run), run.mode), (str(whole), run.situation[0]))

    def test_wrong_steps(self):
        run = Run(WHEEL, 3, 0)
        for value in [*NO_INTEGERS, 2, 3, -1, -2, LONG, -LONG]:
            check_raises(self, InvalidOperation, {}, lambda one, more: one + more, run, value)

    def test_back(self):
        run = Run(FALLS, 2, 0, 0, 0, 0, 1)
        self.assertEqual(run.back(many=0), run)
        self.assertEqual(run.back(), Run(FALLS, 2, 0, 0, 0, 0))
        self.assertEqual(run.back(many=3), Run(FALLS, 2, 0, 0))
        self.assertEqual(run.back(many=4), Run(FALLS, 2, 0))
        self.assertEqual(len(run), 4)
        self.assertIs(type(raised(run.back, 1)), TypeError)
        for value in [*NO_INTEGERS, 5, -1, LONG]:
            check_raises(self, InvalidNumber, {"value": value}, lambda many: run.back(many=many), value)
        check_raises(self, InvalidNumber, {"value": 1}, Run(FALLS, 2, 0).back)

    def test_at(self):
        run = Run(FALLS, 2, 0, 0, 0, 0, 1)
        self.assertEqual(run.at(2), run)
        self.assertEqual(run.at(None).situation, (1, (TO_Q, TO_R, AGAIN), ("r", 0)))
        self.assertEqual(run.at(10 ** 39).bound, 10 ** 39)
        self.assertEqual((run.bound, run.situation), (2, (1, (), ("main", 2))))
        self.assertEqual([run.at(limit).situation for limit in (0, 1)], [(1, (), ("main", 2))] * 2)
        run = Run(FALLS, 2, 0, 0, 0, 0, 2)
        for limit in (0, 1):
            check_raises(self, InvalidOperation, {}, run.at, limit)
        for value in NO_LIMITS:
            check_raises(self, InvalidLimit, {}, run.at, value)

    def test_equal(self):
        run = Run(WHEEL, 3, 0, 1, 0)
        self.assertEqual(run, Run(Program(2, (0, 1), WHEEL["p"]), 3, 0, 1, 0))
        for other in (Run(WHEEL, 4, 0, 1, 0), Run(WHEEL, None, 0, 1, 0), Run(WHEEL, 3, 0, 0, 0), Run(WHEEL, 3, 1, 0, 0),
                      Run(WHEEL, 3, 0, 1), Run(WHEEL.with_starts((0,)), 3, 0, 1, 0)):
            self.assertIs(run == other, False)
            self.assertIs(run != other, True)
        for value in [*VALUES, (WHEEL, 3, 0, (1, 0)), WHEEL]:
            self.assertIs(run == value, False)
            self.assertIs(value == run, False)

    def test_a_thousand_steps(self):
        run = Run(WHEEL, 0, 0, *[0] * 1000)
        self.assertEqual((len(run), len(run.situations)), (1000, 1001))
        self.assertEqual(run, Run(WHEEL, 0, 0, *[0] * 999) + 0)
        check_raises(self, TooMany, {"limit": 1000}, Run, WHEEL, 0, 0, *[0] * 1001)
        check_raises(self, TooMany, {"limit": 1000}, Run, WHEEL, 0, 0, *[0] * 3001)
        check_raises(self, TooMany, {"limit": 1000}, lambda index: run + index, 0)
        for value in (2, -1, True, None):
            check_raises(self, InvalidOperation, {}, lambda index: run + index, value)
            check_raises(self, InvalidRun, {}, Run, WHEEL, 0, 0, *[0] * 2000, value)

    def test_a_thousand_open_calls(self):
        run = Run(TURN, None, 0, *[0] * 1000)
        self.assertEqual((run.deepest, run.refused, str(run)), (1000, 0, "run of 1000 steps, 1000 open calls"))
        self.assertEqual(run.situations[7], (0, (("p", 0),) * 7, ("p", 0)))
        self.assertEqual((run.at(600).refused, run.at(600).deepest, run.at(1000)), (1, 600, Run(TURN, 1000, 0, *[0] * 1000)))
        # At a lower limit the same choices come to an end that is too early for them.
        check_raises(self, InvalidOperation, {}, run.at, 300)

    def test_of(self):
        self.assertEqual(Run.of(WHEEL, 3, 0, (1, 0)), Run(WHEEL, 3, 0, 1, 0))
        self.assertEqual(Run.of(WHEEL, None, 1, ()), Run(WHEEL, None, 1))
        self.assertIs(type(Run.of(WHEEL, 3, 0, (1, 0))), Run)
        for value in [*NO_TUPLES, [0, 0], "00", {0: 0}, range(1)]:
            check_raises(self, InvalidRun, {}, Run.of, WHEEL, 3, 0, value)
            check_raises(self, InvalidLimit, {}, Run.of, WHEEL, -3, 0, value)
            check_raises(self, InvalidProgram, {}, Run.of, None, -3, 0, value)

    def test_it_cannot_be_iterated_over(self):
        check_not_iterable(self, Run(WHEEL, 3, 0, 1), Run(WHEEL, 3, 0))

    def test_it_never_changes(self):
        run = Run(WHEEL, 3, 0, 1)
        for name in "program bound start choices situation situations mode ended deepest refused".split():
            self.assertIs(type(raised(setattr, run, name, None)), AttributeError)

    def test_all_is_defined_in_the_class_itself(self):
        names = ("program bound start choices situation situations mode ended deepest refused back at of __init__ "
                 "__add__ __len__ __eq__ __str__")
        for name in names.split():
            self.assertIn(name, vars(Run))
        self.assertEqual(list(inspect.signature(Run).parameters), ["program", "limit", "start", "choices"])
        self.assertEqual(list(inspect.signature(Run.of).parameters), ["program", "limit", "start", "choices"])


class WrongRuns(unittest.TestCase):
    def check(self, error, program, limit, start, *choices):
        check_raises(self, error, {}, Run, program, limit, start, *choices)
        check_raises(self, error, {}, Run.of, program, limit, start, choices)

    def test_programs(self):
        for value in NO_PROGRAMS:
            self.check(InvalidProgram, value, 3, 0)
            self.check(InvalidProgram, value, -1, None, None)

    def test_limits(self):
        for value in NO_LIMITS:
            self.check(InvalidLimit, WHEEL, value, 0)
            self.check(InvalidLimit, WHEEL, value, None, *[None] * 1001)

    def test_starts(self):
        for value in [*NO_INTEGERS, 2, -1, LONG]:
            self.check(InvalidRun, WHEEL, 3, value)
            self.check(InvalidRun, WHEEL, 3, value, 0)
        for value in (1, False, 2):
            self.check(InvalidRun, TURN, 3, value)

    def test_choices(self):
        for value in [*NO_INTEGERS, 2, -1, LONG, -LONG]:
            self.check(InvalidRun, WHEEL, 3, 0, value)
            self.check(InvalidRun, WHEEL, 3, 0, 0, 0, value, 0)
        self.check(InvalidRun, WHEEL, 3, 1, 1)
        self.check(InvalidRun, DOWN, 0, 2, 0, 0, 0)
        self.check(InvalidRun, WHEEL, 3, 1, *[0] * 1001, 1)


if __name__ == "__main__":
    unittest.main()
