"""[0.20], [0.22], [0.23], [13.1] and stage 13: limits that are enough."""

import unittest

from deepenough.ask.enough import enough, enough_paper, is_enough_paper, least_enough, unlike_at, wholly_enough
from deepenough.base.limits import Limits
from deepenough.base.programs import Procedure, Program
from deepenough.errors import InvalidLimit, InvalidProgram, TooMany
from deepenough.know.rounds import Rounds, round_paper
from deepenough.know.rows import row

from helper import (DOWN, JUST_400, JUST_401, LATE_35, LONG, NEGATIVE, NO_INTEGERS, NO_PROGRAMS, ROUND_40, ROUND_630,
                    TURN, VALUES, all_pairs, check_examples, check_raises, members, model_limitless, model_row, raised,
                    ring_program, rows_of, some_programs)

EXAMPLES = """
>>> [str(enough(DOWN)), str(wholly_enough(DOWN)), least_enough(DOWN), str(enough(TURN)), least_enough(TURN)]
['2+1k', '2+1k', 2, 'none', None]
>>> [unlike_at(DOWN, 1), unlike_at(DOWN, 2), enough_paper(DOWN)[:2], enough_paper(TURN)[:3]]
[{('p', 2): (((), (0,), False), ((0,), (), False))}, {}, ('from', 2), ('never', 0, 2)]
"""

NAMES = {"TURN": TURN, "DOWN": DOWN, "enough": enough, "wholly_enough": wholly_enough, "least_enough": least_enough,
         "unlike_at": unlike_at, "enough_paper": enough_paper}
SMALL = some_programs(131, 80, points=4, moves=7)
ALONE = Program(1, (0,), Procedure("p", 1, ("leave", 0, (0,))))

# Main leaves in the mode 1, and goes on for ever in the mode 0: at each other limit it does what it does without one.
ON_AND_OFF = Program(2, (0,), Procedure("main", 2, ("call", 0, 1, "p", (0,), None), ("go", 1, 1, ((0, 0),)),
                                        ("leave", 1, (1,))), TURN["p"])

# Only a procedure that main does not call needs a limit.
ASIDE = Program(3, (2,), Procedure("main", 1, ("leave", 0, (2,))), DOWN["p"])

# A chain that is left from the limit 35 on, beside procedures that are never enough.
LATE_AND_NEVER = Program(2, (0,), Procedure("a", 2, ("call", 0, 1, "b", (0, 1), None), ("leave", 1, (0, 1))),
                         Procedure("b", 1, ("leave", 0, (0, 1))), TURN["p"])

ALL = [TURN, DOWN, ALONE, ON_AND_OFF, ASIDE, LATE_AND_NEVER, ROUND_40, LATE_35, *SMALL]


class Examples(unittest.TestCase):
    def test_examples_of_the_document(self):
        check_examples(self, EXAMPLES, NAMES)

    def test_each_is_defined_in_its_file(self):
        for call in (enough, wholly_enough, least_enough, unlike_at, enough_paper, is_enough_paper):
            self.assertEqual(call.__module__, "deepenough.ask.enough")


class SetsOfLimits(unittest.TestCase):
    def test_rows_and_the_row_without_a_limit(self):
        for program in ALL:
            held = row(program, None)
            begun = [(program.main, start) for start in program.starts]
            rows = [row(program, limit) for limit in range(130)]
            self.assertEqual(members(enough(program)), [limit for limit, told in enumerate(rows)
                                                        if all(told[pair] == held[pair] for pair in begun)])
            self.assertEqual(members(wholly_enough(program)), [limit for limit, told in enumerate(rows) if told == held])
            for found in (enough(program), wholly_enough(program)):
                self.assertIsInstance(found, Limits)

    def test_all_situations_at_small_limits(self):
        for program in [TURN, DOWN, ON_AND_OFF, ASIDE, *SMALL[:30]]:
            held = model_limitless(program)
            for limit in (0, 1, 2, 3, 4):
                told = model_row(program, limit)
                right = all(told[program.main, start] == held[program.main, start] for start in program.starts)
                self.assertIs(limit in enough(program), right)
                self.assertIs(limit in wholly_enough(program), told == held)
                self.assertEqual(unlike_at(program, limit),
                                 {pair: (told[pair], held[pair]) for pair in all_pairs(program) if told[pair] != held[pair]})

    def test_at_once_late_never_on_and_off(self):
        for program, whole, main, least in (
                (ALONE, "0+1k", "0+1k", 0), (ASIDE, "2+1k", "0+1k", 0), (DOWN, "2+1k", "2+1k", 2),
                (LATE_35, "35+1k", "35+1k", 35), (LATE_AND_NEVER, "none", "1+1k", 1), (TURN, "none", "none", None),
                (ON_AND_OFF, "none", "2+2k", None), (ROUND_40, "none", "none", None)):
            self.assertEqual([str(wholly_enough(program)), str(enough(program)), least_enough(program)],
                             [whole, main, least])
        self.assertEqual(least_enough(DOWN.with_starts((0,))), 0)
        self.assertEqual(least_enough(DOWN.with_starts((0, 1, 2))), 2)

    def test_the_least_limit_from_which_on_all_are_enough(self):
        for program in ALL:
            found = members(enough(program), 200)
            late = [limit for limit in range(150) if found[-(200 - limit):] == list(range(limit, 200))]
            self.assertEqual(least_enough(program), late[0] if late else None)

    def test_if_a_limit_is_wholly_enough_so_is_each_greater_one(self):
        for program in ALL:
            found = wholly_enough(program)
            self.assertTrue(not found or found == Limits.since(found.least))

    def test_what_is_not_true(self):
        # If a limit is enough, so is each greater one; some limit is always enough.
        self.assertEqual([number in enough(ON_AND_OFF) for number in (2, 3)], [True, False])
        self.assertFalse(enough(TURN))


class Unlike(unittest.TestCase):
    def test_triples(self):
        for program in ALL:
            held = row(program, None)
            for limit in (0, 1, 2, 34, 35, 41, 10 ** 39, LONG):
                told = row(program, limit)
                found = unlike_at(program, limit)
                self.assertEqual(found, {pair: (told[pair], held[pair]) for pair in told if told[pair] != held[pair]})
                self.assertEqual(list(found), sorted(found))
                self.assertIs(found == {}, limit in wholly_enough(program))

    def test_what_is_returned_is_new(self):
        unlike_at(DOWN, 1).clear()
        self.assertEqual(len(unlike_at(DOWN, 1)), 1)


class Papers(unittest.TestCase):
    def test_papers(self):
        for program in ALL:
            paper = enough_paper(program)
            whole = wholly_enough(program)
            first, period, rows = round_paper(program)
            if whole:
                self.assertEqual(paper, ("from", whole.least, rows_of(program, whole.least + 1)))
                self.assertEqual(paper[2][-1], row(program, None))
            else:
                self.assertEqual(paper, ("never", first, period, rows))
            self.assertIs(is_enough_paper(program, paper), True)
            # Just one kind exists.
            last = rows_of(program, first + 1)
            self.assertIs(is_enough_paper(program, ("from", first, last)), bool(whole))
            self.assertIs(is_enough_paper(program, ("never", first, period, rows)), not whole)

    def test_papers_from_later_limits(self):
        for program in (DOWN, ALONE, LATE_35):
            least = wholly_enough(program).least
            for limit in (0, least - 1, least, least + 1, least + 7, 398, 399, 400, 401):
                if limit >= 0:
                    paper = ("from", limit, rows_of(program, limit + 1))
                    self.assertIs(is_enough_paper(program, paper), least <= limit <= 399)

    def test_papers_that_go_round_once_more(self):
        for program in (TURN, ON_AND_OFF, ROUND_40):
            low, span = round_paper(program)[:2]
            for first, period in ((low, span), (low + 1, span), (low, 2 * span), (low + 3, 3 * span), (low, span + 1),
                                  (400 - span, span), (401 - span, span), (40, 360), (41, 360), (low, 1)):
                right = first >= low and period % span == 0 and first + period <= 400
                paper = ("never", first, period, rows_of(program, first + period))
                self.assertIs(is_enough_paper(program, paper), right)

    def test_more_than_400(self):
        for program in (JUST_401, ROUND_630):
            rows = rows_of(program, 640)
            for call in (enough, wholly_enough, least_enough, enough_paper):
                check_raises(self, TooMany, {"limit": 400}, call, program)
            for limit in (0, 1, 399, 400, LONG):
                check_raises(self, TooMany, {"limit": 400}, unlike_at, program, limit)
            for first, period in ((0, 400), (1, 399), (1, 400), (0, 630), (0, 1)):
                self.assertIs(is_enough_paper(program, ("never", first, period, rows[:first + period])), False)
            for limit in (0, 7, 399, 400):
                self.assertIs(is_enough_paper(program, ("from", limit, rows[:limit + 1])), False)
            check_raises(self, TooMany, {"limit": 400}, enough_paper, program)
        self.assertEqual(enough_paper(JUST_400), ("never", 0, 400, rows_of(JUST_400, 400)))
        self.assertIs(is_enough_paper(JUST_400, enough_paper(JUST_400)), True)

    def test_each_row_counts(self):
        for program in (DOWN, LATE_35, TURN, ROUND_40):
            paper = enough_paper(program)
            rows = paper[-1]
            for number in range(len(rows)):
                wrong = dict(rows[number])
                leaves, fails, endless = wrong[program.main, 0]
                wrong[program.main, 0] = (leaves, fails, not endless)
                told = (*rows[:number], wrong, *rows[number + 1:])
                self.assertIs(is_enough_paper(program, (*paper[:-1], told)), False)
                turned = {key: rows[number][key] for key in reversed(list(rows[number]))}
                told = (*rows[:number], turned, *rows[number + 1:])
                self.assertIs(is_enough_paper(program, (*paper[:-1], told)), True)

    def test_other_values(self):
        never, since = enough_paper(TURN), enough_paper(DOWN)
        wrong = [since[:2], (*since, None), list(since), ("From", *since[1:]), ("never", *since[1:]), (None, *since[1:]),
                 ("from", 2, list(since[2])), ("from", 2, since[2][:-1]), ("from", 1, since[2]), ("from", 3, since[2]),
                 ("from", 2, since[2][::-1]), ("from", 2, None), ("from", 2, ()), ("from", 1, since[2][:2]),
                 ("from", 2, (*since[2][:2], None)), (["from"], *since[1:]), ("from", -1, ()), ("never", 2, 1, since[2]),
                 ("from", 2, 1, since[2]), ("from", 2, since[2][2:])]
        for value in [*VALUES, *wrong, never, ("never", *round_paper(DOWN))]:
            self.assertIs(is_enough_paper(DOWN, value), False, value)
        wrong = [never[:3], (*never, None), list(never), ("from", *never[1:]), ("Never", *never[1:]), (0, *never[1:]),
                 ("never", 0, 2, list(never[3])), ("never", 0, 2, never[3][:1]), ("never", 0, 1, never[3][:1]),
                 ("never", 0, 2, never[3][::-1]), ("never", 0, 0, ()), ("never", 1, 1, never[3]), ("never", 0, 2, None),
                 ("never", LONG, 2, never[3]), ("never", 0, LONG, never[3]), ("from", 1, never[3]), ("never", 2, never[3])]
        for value in [*VALUES, *wrong, since]:
            self.assertIs(is_enough_paper(TURN, value), False, value)
        for value in [*NO_INTEGERS, *NEGATIVE]:
            self.assertIs(is_enough_paper(DOWN, ("from", value, since[2])), False)
            self.assertIs(is_enough_paper(TURN, ("never", value, 2, never[3])), False)
            self.assertIs(is_enough_paper(TURN, ("never", 0, value, never[3])), False)
        # False is equal to 0, but no limit.
        self.assertIs(is_enough_paper(ALONE, ("from", False, (row(ALONE, 0),))), False)
        self.assertIs(is_enough_paper(ALONE, ("from", 0, (row(ALONE, 0),))), True)
        self.assertIs(is_enough_paper(DOWN, ("from", True, since[2][:2])), False)

    def test_a_row_without_a_limit_in_the_middle(self):
        rows = rows_of(DOWN, 9)
        self.assertIs(is_enough_paper(DOWN, ("from", 8, rows)), True)
        self.assertIs(is_enough_paper(DOWN, ("never", 2, 7, rows)), False)
        late = ring_program((), 6, 6, chain=5)
        self.assertEqual(enough_paper(late)[:2], ("from", Rounds(late).first))


class Wrong(unittest.TestCase):
    def test_programs(self):
        for value in NO_PROGRAMS:
            for call, more in ((enough, ()), (wholly_enough, ()), (least_enough, ()), (unlike_at, (None,)),
                               (enough_paper, ()), (is_enough_paper, (None,))):
                check_raises(self, InvalidProgram, {}, call, value, *more)

    def test_limits_ahead_of_too_many(self):
        for value in [*NO_INTEGERS, *NEGATIVE]:
            check_raises(self, InvalidLimit, {}, unlike_at, DOWN, value)
            check_raises(self, InvalidLimit, {}, unlike_at, JUST_401, value)
        self.assertIsNone(raised(unlike_at, DOWN, LONG))


if __name__ == "__main__":
    unittest.main()
