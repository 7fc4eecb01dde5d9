"""[0.15], [0.17] and stage 16: changes from limit to limit."""

import unittest

from deepenough.base.limits import Limits
from deepenough.base.programs import Procedure, Program
from deepenough.compare.changes import next_change, row_classes, stays_from, wrapped
from deepenough.errors import InvalidLimit, InvalidOperation, InvalidProgram, TooMany
from deepenough.give.ends import ends_at, outcome
from deepenough.know.rounds import Rounds
from deepenough.know.rows import row

from helper import (DOWN, JUST_400, JUST_401, LATE_35, LONG, NEGATIVE, NO_INTEGERS, NO_PROGRAMS, ROUND_40, ROUND_630,
                    TURN, all_situations, can_go_on, check_examples, check_raises, members, raised, ring_program,
                    some_programs)

EXAMPLES = """
>>> [[str(one) for one in row_classes(DOWN)], next_change(DOWN, 0), next_change(DOWN, 2), stays_from(DOWN), stays_from(TURN)]
[['0', '1', '2+1k'], 1, None, 2, None]
>>> [wrapped(TURN).names, str(ends_at(wrapped(TURN), ("left", 1))), str(ends_at(wrapped(TURN), ("failed", 0)))]
[('a', 'p'), '1+2k', '0']
"""

NAMES = {"TURN": TURN, "DOWN": DOWN, "row_classes": row_classes, "next_change": next_change, "stays_from": stays_from,
         "wrapped": wrapped, "ends_at": ends_at}
SMALL = some_programs(161, 80, points=4, moves=7)
ALONE = Program(1, (0,), Procedure("p", 1, ("leave", 0, (0,))))
LATE_ROUND = ring_program((4, 3), 4, 4, chain=9)

# Rows change for ever, but what main does never changes.
ASIDE = Program(2, (0,), Procedure("main", 1, ("leave", 0, (0,))), TURN["p"])

ALL = [TURN, DOWN, ALONE, ASIDE, ROUND_40, LATE_35, LATE_ROUND, *SMALL]


def with_six(*first):
    """A program with six procedures, the given one first."""
    return Program(1, (0,), *[Procedure(name, 1, ("leave", 0, (0,))) for name in [*first, "v", "w", "x", "y", "z"]])


class Examples(unittest.TestCase):
    def test_examples_of_the_document(self):
        check_examples(self, EXAMPLES, NAMES)

    def test_each_is_defined_in_its_file(self):
        for call in (row_classes, next_change, stays_from, wrapped):
            self.assertEqual(call.__module__, "deepenough.compare.changes")


class Classes(unittest.TestCase):
    def test_rows(self):
        for program in ALL:
            found = row_classes(program)
            self.assertEqual((type(found), {type(one) for one in found}), (tuple, {Limits}))
            self.assertEqual(len(found), len(Rounds(program)))
            self.assertEqual([one.least for one in found], list(range(len(found))))
            for one in found:
                held = row(program, one.least)
                self.assertEqual(members(one), [limit for limit in range(130) if row(program, limit) == held])
                self.assertEqual(one, Rounds(program).limits_of(held))

    def test_each_limit_is_in_just_one(self):
        for program in ALL:
            told = Limits.none()
            for one in row_classes(program):
                self.assertFalse(told & one)
                told = told | one
            self.assertEqual(told, Limits.every())

    def test_texts(self):
        for program, texts in ((TURN, ["0+2k", "1+2k"]), (ALONE, ["0+1k"]), (ASIDE, ["0+2k", "1+2k"])):
            self.assertEqual([str(one) for one in row_classes(program)], texts)
        self.assertEqual([str(one) for one in row_classes(LATE_ROUND)][6:11], ["6", "7", "8+24k", "9+24k", "10+24k"])
        self.assertEqual(str(row_classes(JUST_400)[399]), "399+400k")


class Changes(unittest.TestCase):
    def test_outcomes(self):
        for program in ALL:
            told = [outcome(program, limit) for limit in range(200)]
            for limit in range(100):
                later = [other for other in range(limit + 1, 200) if told[other] != told[limit]]
                self.assertEqual(next_change(program, limit), later[0] if later else None)
            same = [limit for limit in range(100) if all(one == told[limit] for one in told[limit:])]
            self.assertEqual(stays_from(program), same[0] if same else None)

    def test_all_situations_at_small_limits(self):
        for program in [TURN, DOWN, *SMALL]:
            told = []
            for limit in range(4):
                graph = all_situations(program, limit)
                ends = {(mode, spot) for mode, _, spot in graph if isinstance(spot, str)}
                told.append((ends, bool(can_go_on(graph))))
            for limit in range(3):
                found = next_change(program, limit)
                later = [other for other in range(limit + 1, 4) if told[other] != told[limit]]
                self.assertEqual(found if found in range(4) else None, later[0] if later else None)

    def test_near_far_and_none(self):
        self.assertEqual([next_change(TURN, limit) for limit in (0, 1, 10 ** 39, LONG)], [1, 2, 10 ** 39 + 1, LONG + 1])
        self.assertEqual([next_change(DOWN, limit) for limit in (0, 1, 2, 3, LONG)], [1, 2, None, None, None])
        self.assertEqual([next_change(ASIDE, limit) for limit in (0, 1, LONG)], [None, None, None])
        # The chain goes through all procedures, and then through them in the next mode.
        self.assertEqual([next_change(LATE_35, limit) for limit in (0, 29, 33, 34, 35, 36, LONG)],
                         [5, 35, 35, 35, None, None, None])
        self.assertEqual([stays_from(program) for program in (DOWN, ALONE, ASIDE, LATE_35, TURN, ROUND_40)],
                         [2, 0, 0, 35, None, None])
        self.assertEqual(stays_from(DOWN.with_starts((0,))), 0)

    def test_great_limits_follow_the_rounds(self):
        for program in (ROUND_40, LATE_ROUND, JUST_400):
            span = Rounds(program).period
            for limit in (8, 9, 20, 31, 39):
                near = next_change(program, limit)
                for times in (1, 7, 10 ** 37):
                    found = next_change(program, limit + times * span)
                    self.assertEqual(found, near if near is None else near + times * span)

    def test_a_change_behind_the_last_row(self):
        # What it does changes only where the rows have come round.
        wheel = ring_program((3,), 2, 2)
        self.assertEqual((Rounds(wheel).first, Rounds(wheel).period), (0, 6))
        told = [outcome(wheel, limit) for limit in range(30)]
        last = [limit for limit in range(5) if told[limit + 1:6] == [told[limit]] * (5 - limit)]
        self.assertEqual(next_change(wheel, 5), next(limit for limit in range(6, 30) if told[limit] != told[5]))
        self.assertEqual(next_change(wheel, last[0] if last else 5), next_change(wheel, 5))

    def test_starts_together(self):
        # Each start alone changes with each limit, both together do not.
        both = TURN.with_starts((0, 1))
        self.assertEqual([next_change(both, 0), stays_from(both)], [None, 0])


class Wrapped(unittest.TestCase):
    def test_what_it_does_at_a_limit_is_what_the_elder_one_does_at_one_less(self):
        for program in [one for one in ALL if len(one) < 6]:
            found = wrapped(program)
            self.assertIs(type(found), Program)
            self.assertEqual((found.modes, found.starts, found.procedures[1:]),
                             (program.modes, program.starts, program.procedures))
            for limit in (1, 2, 3, 36, 10 ** 39, None):
                self.assertEqual(outcome(found, limit), outcome(program, None if limit is None else limit - 1))
            self.assertEqual(outcome(found, 0), ((), program.starts, False))

    def test_its_main_procedure(self):
        self.assertEqual(wrapped(TURN)["a"], Procedure("a", 2, ("call", 0, 1, "p", (0, 1), None), ("leave", 1, (0, 1))))
        self.assertEqual((wrapped(DOWN).main, wrapped(DOWN).calls[0], wrapped(DOWN).catches), ("a", ("a", 0), ()))

    def test_names(self):
        names = ["a", "b", "c", "d", "e"]
        program = Program(1, (0,), Procedure("p", 1))
        for name in names:
            program = wrapped(program)
            self.assertEqual((program.main, program[name].moves[0][3]), (name, chr(ord(name) - 1) if name != "a" else "p"))
        for present, name in ((("a",), "b"), (("b",), "a"), (("b", "a"), "c"), (("a", "c"), "b"), (("aa", "b"), "a"),
                              (("c", "a", "b", "d"), "e")):
            one = Program(1, (0,), *[Procedure(other, 1) for other in present])
            self.assertEqual(wrapped(one).names, (name, *present))

    def test_five_and_six_procedures(self):
        five = with_six()
        self.assertEqual((len(five), wrapped(five).names), (5, ("a", "v", "w", "x", "y", "z")))
        for program in (with_six("p"), with_six("a"), wrapped(five), JUST_400, JUST_401):
            self.assertEqual(len(program), 6)
            check_raises(self, InvalidOperation, {}, wrapped, program)

    def test_late_rows_do_not_matter(self):
        late = ring_program((5, 7, 9), 6, 5)
        self.assertEqual(wrapped(late).names, ("a", *late.names))


class Wrong(unittest.TestCase):
    def test_programs(self):
        for value in NO_PROGRAMS:
            for call, more in ((row_classes, ()), (next_change, (None,)), (stays_from, ()), (wrapped, ())):
                check_raises(self, InvalidProgram, {}, call, value, *more)

    def test_limits_ahead_of_too_many(self):
        for value in [*NO_INTEGERS, *NEGATIVE]:
            for program in (DOWN, JUST_401):
                check_raises(self, InvalidLimit, {}, next_change, program, value)

    def test_too_late(self):
        for program in (JUST_401, ROUND_630):
            for limit in (0, 1, 399, 400, LONG):
                check_raises(self, TooMany, {"limit": 400}, next_change, program, limit)
            check_raises(self, TooMany, {"limit": 400}, row_classes, program)
            check_raises(self, TooMany, {"limit": 400}, stays_from, program)
        for call in (row_classes, stays_from):
            self.assertIsNone(raised(call, JUST_400))


if __name__ == "__main__":
    unittest.main()
