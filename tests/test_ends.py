"""[0.15], [0.16], [0.22], [8.1] and stage 8: how runs end."""

import unittest

from deepenough.base.limits import Limits
from deepenough.errors import InvalidLimit, InvalidOperation, InvalidProgram, TooMany
from deepenough.give.ends import (end_paper, endless_at, ends_at, is_end_paper, outcome, outcomes, surely_at)
from deepenough.know.rounds import Rounds, round_paper
from deepenough.know.rows import next_row, row
from deepenough.run.runs import Run

from helper import (DOWN, JUST_400, JUST_401, LATE_35, LONG, NO_INTEGERS, NO_LIMITS, NO_PROGRAMS, NO_TUPLES, ROUND_40,
                    ROUND_630, STEPS_1000, STEPS_1001, TURN, VALUES, all_situations, can_go_on, check_examples,
                    check_raises, copied, members, model_steps, raised, some_copied, some_programs)

EXAMPLES = """
>>> [outcome(TURN, 7), outcome(TURN, None), str(ends_at(TURN, ("left", 1))), str(endless_at(TURN)), str(surely_at(TURN, (("left", 0),)))]
[((0,), (), False), ((), (), True), '0+2k', 'none', '1+2k']
>>> [str(surely_at(DOWN, (("left", 0),))), end_paper(DOWN, ("left", 0)), end_paper(DOWN, ("left", 2))[:3], [str(one) for one in outcomes(DOWN).values()]]
['2+1k', ('run', 2, 2, (0, 0, 0, 0, 0, 0, 0)), ('never', 2, 1), ['1', '0', '2+1k']]
"""

NAMES = {"TURN": TURN, "DOWN": DOWN, "outcome": outcome, "ends_at": ends_at, "endless_at": endless_at,
         "surely_at": surely_at, "end_paper": end_paper, "outcomes": outcomes}
SMALL = some_programs(51, 60, points=4, moves=7)
ALL = [TURN, DOWN, ROUND_40, ROUND_40.with_starts((0, 1, 2)), *SMALL]
LEFT, FAILED = ("left", 0), ("failed", 0)

NO_ENDS = [*VALUES, ("left",), ("left", 0, 0), ["left", 0], ("left", 3), ("left", -1), ("left", True), ("left", None),
           ("left", "0"), ("Left", 0), ("fails", 0), ("", 0), (0, "left"), (None, 0), (["left"], 0), ("left", (0,)),
           (LEFT,), ("left", LONG), ("leftfailed", 0), "left", ("left", [0])]


def all_ends(program):
    return [(word, mode) for word in ("failed", "left") for mode in range(program.modes)]


def model_outcome(program, limit):
    graph = all_situations(program, limit)
    ends = {word: tuple(sorted(mode for mode, _, spot in graph if spot == word)) for word in ("left", "failed")}
    return (ends["left"], ends["failed"], bool(can_go_on(graph)))


class Examples(unittest.TestCase):
    def test_examples_of_the_document(self):
        check_examples(self, EXAMPLES, NAMES)

    def test_each_is_defined_in_its_file(self):
        for call in (outcome, ends_at, endless_at, surely_at, outcomes, end_paper, is_end_paper):
            self.assertEqual(call.__module__, "deepenough.give.ends")


class Outcomes(unittest.TestCase):
    def test_all_situations_at_small_limits(self):
        for program in [TURN, DOWN, *SMALL]:
            for limit in (0, 1, 2, 3):
                self.assertEqual(outcome(program, limit), model_outcome(program, limit))

    def test_all_starts_together(self):
        for program in ALL:
            for limit in (0, 3, 10 ** 39, None):
                triples = [row(program, limit)[program.main, start] for start in program.starts]
                found = outcome(program, limit)
                self.assertEqual(found[0], tuple(sorted({mode for triple in triples for mode in triple[0]})))
                self.assertEqual(found[1], tuple(sorted({mode for triple in triples for mode in triple[1]})))
                self.assertIs(found[2], any(triple[2] for triple in triples))

    def test_copies_of_the_procedures_do_the_same_without_a_limit(self):
        for program, limit in some_copied(52, 60):
            self.assertEqual(outcome(program, limit), outcome(copied(program, limit), None))

    def test_great_limits(self):
        for number in (0, 17, 39, 10 ** 30 + 7, LONG):
            self.assertEqual(outcome(ROUND_40, number), outcome(ROUND_40, number % 40))

    def test_other_names_change_nothing(self):
        for program in SMALL:
            other = program.renamed({name: new for name, new in zip(program.names, ("x", "w", "v"))})
            self.assertEqual(outcomes(other), outcomes(program))

    def test_too_late(self):
        for program in (JUST_401, ROUND_630):
            for limit in (0, 399, None):
                self.assertIsNone(raised(outcome, program, limit))
            for limit in (400, 401, 10 ** 39):
                check_raises(self, TooMany, {"limit": 400}, outcome, program, limit)
        self.assertEqual(outcome(JUST_400, 10 ** 39), outcome(JUST_400, 0))

    def test_wrong_arguments(self):
        for value in NO_PROGRAMS:
            check_raises(self, InvalidProgram, {}, outcome, value, -1)
        for value in NO_LIMITS:
            check_raises(self, InvalidLimit, {}, outcome, JUST_401, value)


class SetsOfLimits(unittest.TestCase):
    def test_ends(self):
        for program in ALL:
            found = [outcome(program, limit) for limit in range(130)]
            for word, mode in all_ends(program):
                part = 0 if word == "left" else 1
                self.assertEqual(members(ends_at(program, (word, mode))),
                                 [limit for limit, held in enumerate(found) if mode in held[part]])
            self.assertEqual(members(endless_at(program)), [limit for limit, held in enumerate(found) if held[2]])

    def test_surely(self):
        for program in ALL:
            ends = all_ends(program)
            for chosen in ((), tuple(ends), tuple(ends[:1]), tuple(ends[1:]), tuple(ends[::2])):
                expected = []
                for limit in range(130):
                    leaves, fails, endless = outcome(program, limit)
                    told = [*[("left", mode) for mode in leaves], *[("failed", mode) for mode in fails]]
                    if not endless and set(told) <= set(chosen):
                        expected.append(limit)
                self.assertEqual(members(surely_at(program, chosen)), expected)

    def test_outcomes(self):
        for program in ALL:
            found = outcomes(program)
            self.assertEqual(list(found), sorted(found))
            told = Limits.none()
            for triple, limits in found.items():
                self.assertEqual(members(limits), [limit for limit in range(130) if outcome(program, limit) == triple])
                self.assertEqual(told & limits, Limits.none())
                told = told | limits
            self.assertEqual(told, Limits.every())
            outcomes(program).clear()
            self.assertEqual(outcomes(program), found)

    def test_what_ends_without_a_limit_ends_at_all_great_limits(self):
        for program in ALL:
            leaves, fails, _ = outcome(program, None)
            for end in [*[("left", mode) for mode in leaves], *[("failed", mode) for mode in fails]]:
                self.assertTrue((~ends_at(program, end)).is_finite)

    def test_what_never_was_true(self):
        # With each other limit TURN does something else, and without a limit it does nothing of both.
        self.assertEqual([str(ends_at(TURN, ("left", mode))) for mode in (0, 1)], ["1+2k", "0+2k"])
        self.assertEqual(outcome(TURN, None), ((), (), True))
        self.assertEqual(outcomes(TURN), {((0,), (), False): Limits((), 0, 2, (1,)), ((1,), (), False): Limits((), 0, 2, (0,))})

    def test_an_idle_catch_can_be_taken_away(self):
        for program in SMALL:
            for site in program.catches:
                bare = program.without_catches((site,))
                caught = {limit for limit in range(8) if outcome(program, limit) != outcome(bare, limit)}
                if not caught:
                    self.assertEqual([outcome(program, limit) for limit in range(4)],
                                     [outcome(bare, limit) for limit in range(4)])

    def test_too_late(self):
        for program in (JUST_401, ROUND_630):
            for call, more in ((ends_at, (LEFT,)), (endless_at, ()), (surely_at, ((LEFT,),)), (outcomes, ()),
                               (end_paper, (LEFT,)), (end_paper, (FAILED,))):
                check_raises(self, TooMany, {"limit": 400}, call, program, *more)
        both = JUST_400.with_starts((0, 3))
        self.assertEqual([ends_at(both, ("left", mode)).period for mode in (0, 1, 2)], [16, 400, 50])
        self.assertEqual((len(outcomes(both)), {limits.period for limits in outcomes(both).values()}), (39, {400}))
        self.assertEqual(str(ends_at(LATE_35, ("left", 5))), "35+1k")

    def test_wrong_arguments(self):
        for value in NO_PROGRAMS:
            for call, more in ((ends_at, (None,)), (endless_at, ()), (surely_at, (None,)), (outcomes, ()),
                               (end_paper, (None,)), (is_end_paper, (None, None))):
                check_raises(self, InvalidProgram, {}, call, value, *more)
        for program in (TURN.with_starts((1,)), JUST_401.with_starts((1,))):
            for value in [value for value in NO_ENDS if value != ("left", 3) or program.modes < 4]:
                check_raises(self, InvalidOperation, {}, ends_at, program, value)
                check_raises(self, InvalidOperation, {}, end_paper, program, value)
                check_raises(self, InvalidOperation, {}, is_end_paper, program, value, None)
                if value not in ((), (LEFT,)):
                    check_raises(self, InvalidOperation, {}, surely_at, program, value)
                    check_raises(self, InvalidOperation, {}, surely_at, program, (("failed", 0), value))
        for value in [*NO_TUPLES, [LEFT], (LEFT, LEFT), (LEFT, FAILED), (("left", 1), LEFT), LEFT, {LEFT: 1}]:
            check_raises(self, InvalidOperation, {}, surely_at, TURN, value)
            check_raises(self, InvalidOperation, {}, surely_at, JUST_401, value)


class Papers(unittest.TestCase):
    def test_papers(self):
        for program in [TURN, DOWN, ROUND_40, *SMALL]:
            for end in all_ends(program):
                paper = end_paper(program, end)
                limits = ends_at(program, end)
                self.assertIs(is_end_paper(program, end, paper), True)
                if not limits:
                    self.assertEqual(paper, ("never", *round_paper(program)))
                    continue
                self.assertEqual(paper[:2], ("run", limits.least))
                run = Run.of(program, *paper[1:])
                self.assertEqual((run.ended, run.mode), end)
                if limits.least < 4:
                    self.assertEqual(len(run), model_steps(program, limits.least)[end])

    def test_runs_as_papers(self):
        again = DOWN.with_caught(("p", 1), 0)
        for program in (TURN, DOWN, again):
            for end in all_ends(program):
                for limit in (0, 1, 2, 3, 10 ** 39):
                    for start in range(program.modes):
                        for choices in ((0,) * many for many in range(12)):
                            run = None
                            if start in program.starts:
                                error = raised(Run, program, limit, start, *choices)
                                run = None if error else Run(program, limit, start, *choices)
                            right = run is not None and (run.ended, run.mode) == end
                            self.assertIs(is_end_paper(program, end, ("run", limit, start, choices)), right)

    def test_runs_with_more_steps_and_other_choices(self):
        program = TURN.with_procedure(TURN["p"]).with_starts((0, 1))
        wheel = program.with_procedure(
            type(TURN["p"])("p", 2, ("go", 0, 0, ((0, 0), (0, 1), (1, 1))), ("leave", 0, (0, 1)), ("leave", 0, (0,))))
        for choices in ((2,), (3,), (0, 0, 0, 2), (0,) * 2000 + (3,)):
            self.assertIs(is_end_paper(wheel, LEFT, ("run", 7, 0, choices)), True)
            self.assertIs(is_end_paper(wheel, ("left", 1), ("run", 7, 0, choices)), False)
        for choices in ((1, 1), (1, 0, 0, 1), (0, 0, 1, 1)):
            self.assertIs(is_end_paper(wheel, ("left", 1), ("run", 0, 0, choices)), True)
        self.assertIs(is_end_paper(wheel, ("left", 1), ("run", 0, 1, (1,))), True)
        self.assertEqual(end_paper(wheel, ("left", 1)), ("run", 0, 1, (1,)))
        self.assertEqual(end_paper(wheel, LEFT)[:3], ("run", 0, 0))

    def test_a_thousand_steps_and_more(self):
        paper = end_paper(STEPS_1000, LEFT)
        self.assertEqual((paper[:3], len(paper[3])), (("run", 5, 0), 1000))
        self.assertIs(is_end_paper(STEPS_1000, LEFT, paper), True)
        check_raises(self, TooMany, {"limit": 1000}, end_paper, STEPS_1001, LEFT)
        self.assertIs(is_end_paper(STEPS_1001, LEFT, ("run", 5, 0, (0,) * 1001)), True)
        self.assertIs(is_end_paper(STEPS_1001, LEFT, ("run", 5, 0, (0,) * 1000)), False)
        self.assertIs(is_end_paper(STEPS_1001, LEFT, ("run", 4, 0, (0,) * 1001)), False)
        self.assertIs(is_end_paper(STEPS_1001, LEFT, ("run", LONG, 0, (0,) * 1001)), True)
        self.assertEqual(end_paper(STEPS_1001, FAILED), ("run", 0, 0, (0,)))

    def test_rows_as_papers(self):
        first, period, rows = round_paper(DOWN)
        longer = (*rows, rows[2], rows[2])
        end = ("left", 2)
        for paper in ((first, period, rows), (3, 1, longer[:4]), (2, 3, longer), (4, 1, longer)):
            self.assertIs(is_end_paper(DOWN, end, ("never", *paper)), True)
            # Left in 0 it can be at the limit 2, so no rows tell that it never is.
            self.assertIs(is_end_paper(DOWN, LEFT, ("never", *paper)), False)
            self.assertIs(is_end_paper(DOWN, FAILED, ("never", *paper)), False)
        self.assertIs(is_end_paper(DOWN, ("failed", 2), ("never", *round_paper(DOWN))), True)
        self.assertIs(is_end_paper(DOWN, ("failed", 2), ("never", *round_paper(TURN))), False)

    def test_judges_never_raise_too_many(self):
        rows = [row(JUST_401, 0)]
        while len(rows) < 401:
            rows.append(next_row(JUST_401, rows[-1]))
        shown = {(word, mode) for told in rows for word, held in zip(("left", "failed"), told["p", 0]) for mode in held}
        seen = set()
        for end in all_ends(JUST_401):
            right = is_end_paper(JUST_401, end, ("never", 1, 400, tuple(rows)))
            self.assertIs(right, end not in shown)
            self.assertIs(is_end_paper(JUST_401, end, ("never", 0, 400, tuple(rows[:400]))), False)
            seen.add(right)
        self.assertEqual(True in seen, len(shown) < len(all_ends(JUST_401)))
        choices = (0,) * 2
        self.assertIs(is_end_paper(JUST_401, FAILED, ("run", 0, 0, choices)),
                      Run(JUST_401, 0, 0, *choices).situation == (0, (), "failed"))

    def test_other_values(self):
        paper = end_paper(DOWN, LEFT)
        never = end_paper(DOWN, ("left", 2))
        wrong = [paper[:3], (*paper, None), list(paper), ("Run", *paper[1:]), ("never", *paper[1:]), (None, *paper[1:]),
                 ("run", 1, 2, paper[3]), ("run", 2, 1, paper[3]), ("run", 2, 2, paper[3][:-1]),
                 ("run", 2, 2, (*paper[3], 0)), ("run", 2, 2, list(paper[3])), ("run", None, 2, paper[3]),
                 ("run", 2, 2, (*paper[3][:-1], 1)), ("run", 2, 2, (False, *paper[3][1:])), ("run", 2, 2, ()),
                 ("run", 2, 2, None), ("run", 2, 2, "0000000"), ("run", 2, 2, (-1, *paper[3][1:])),
                 ("run", 2, 2, (None,) * 7), ("run", -1, 2, paper[3]), ("run", 2, (2,), paper[3])]
        for value in [*VALUES, *wrong]:
            self.assertIs(is_end_paper(DOWN, LEFT, value), False, value)
        for value in [*NO_INTEGERS, -2]:
            self.assertIs(is_end_paper(DOWN, LEFT, ("run", value, 2, paper[3])), False)
            self.assertIs(is_end_paper(DOWN, LEFT, ("run", 2, value, paper[3])), False)
            self.assertIs(is_end_paper(DOWN, ("left", 2), ("never", value, 1, never[3])), False)
            self.assertIs(is_end_paper(DOWN, ("left", 2), ("never", 2, value, never[3])), False)
        wrong = [never[:3], (*never, None), list(never), ("run", *never[1:]), ("Never", *never[1:]),
                 ("never", 2, 1, never[3][:2]), ("never", 1, 2, never[3]), ("never", 2, 1, list(never[3])),
                 ("never", 2, 1, never[3][::-1]), ("never", 0, 0, ()), ("never", 2, 1, None), (["never"], *never[1:])]
        for value in [*VALUES, *wrong]:
            self.assertIs(is_end_paper(DOWN, ("left", 2), value), False, value)

    def test_rounds_are_the_ones_of_stage_7(self):
        self.assertEqual(end_paper(DOWN, ("failed", 2)), ("never", 2, 1, Rounds(DOWN).rows))


if __name__ == "__main__":
    unittest.main()
