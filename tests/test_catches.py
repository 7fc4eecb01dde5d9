"""[0.22], [0.23], [15.1], [15.2] and stage 15: calls that catch."""

import unittest
from itertools import combinations

from deepenough.ask.signs import shows, sign_limits
from deepenough.base.programs import Procedure, Program
from deepenough.compare.catches import idle_catches, is_never_paper, least_catches, never_fails, never_paper
from deepenough.compare.programs import are_alike
from deepenough.errors import InvalidProgram, TooMany
from deepenough.give.ends import ends_at, outcome
from deepenough.know.rounds import Rounds, round_paper
from deepenough.know.rows import row
from deepenough.run.runs import Run

from helper import (DOWN, JUST_400, JUST_401, LATE_35, LONG, NEGATIVE, NO_INTEGERS, NO_PROGRAMS, ROUND_40, ROUND_630,
                    STEPS_1000, STEPS_1001, TURN, VALUES, all_situations, check_examples, check_raises, model_signs,
                    model_steps, raised, ring_program, rows_of, some_programs)

EXAMPLES = """
>>> [idle_catches(TURN), never_fails(TURN), least_catches(TURN), never_fails(DOWN), least_catches(DOWN)]
[(), True, ((('p', 0),),), False, ()]
>>> M = Procedure("main", 3, ("call", 0, 1, "q", (0,), 2), ("leave", 1, (0,)), ("leave", 2, (0,)), ("fail", 2, (1,)))
>>> Q = Procedure("q", 3, ("call", 0, 1, "r", (0,), 2), ("leave", 1, (0,)), ("go", 2, 1, ((0, 0), (1, 0))))
>>> R = Procedure("r", 5, ("go", 0, 1, ((0, 1),)), ("call", 1, 2, "s", (1,), 3), ("go", 3, 4, ((1, 0),)), ("fail", 4, (0,)))
>>> EITHER = Program(2, (0,), M, Q, R, Procedure("s", 1, ("fail", 0, (1,))))
>>> [never_fails(EITHER), least_catches(EITHER), never_paper(DOWN), never_paper(TURN)[:3]]
[True, ((('main', 0), ('q', 0)), (('main', 0), ('r', 1))), ('fails', 0, 2, (0, 0)), ('never', 0, 2)]
>>> never_paper(EITHER.without_catches((("q", 0), ("r", 1))))
('fails', 2, 0, (0, 0, 0, 0, 0))
"""

NAMES = {"TURN": TURN, "DOWN": DOWN, "Procedure": Procedure, "Program": Program, "idle_catches": idle_catches,
         "never_fails": never_fails, "least_catches": least_catches, "never_paper": never_paper}
M = Procedure("main", 3, ("call", 0, 1, "q", (0,), 2), ("leave", 1, (0,)), ("leave", 2, (0,)), ("fail", 2, (1,)))
Q = Procedure("q", 3, ("call", 0, 1, "r", (0,), 2), ("leave", 1, (0,)), ("go", 2, 1, ((0, 0), (1, 0))))
R = Procedure("r", 5, ("go", 0, 1, ((0, 1),)), ("call", 1, 2, "s", (1,), 3), ("go", 3, 4, ((1, 0),)), ("fail", 4, (0,)))
EITHER = Program(2, (0,), M, Q, R, Procedure("s", 1, ("fail", 0, (1,))))
SMALL = some_programs(151, 100, points=4, moves=7)
ALL = [TURN, DOWN, EITHER, ROUND_40, LATE_35, *SMALL]


def calling(many, caught=True):
    """A main procedure with so many calls, one behind the other or at the same point, of one that fails at once."""
    points = [(here, here + 1 if here < 6 else 7) for here in range(7)] + [(0, 7)] * 2
    calls = [("call", here, there, "q", (0,), there if caught else None) for here, there in points[:many]]
    return Program(1, (0,), Procedure("p", 8, *calls, ("leave", 7, (0,))), Procedure("q", 1, ("fail", 0, (0,))))


def failing_late(program):
    """The program of `step_program` that fails where it was left, and is left where it fell."""
    main = program["p"]
    end = main.points
    moves = [(*move[:5], end) if move[0] == "call" else ("fail", *move[1:]) if move[0] == "leave" else move
             for move in main.moves]
    return program.with_procedure(Procedure("p", end + 1, *moves, ("leave", end, (0,))))


def idle_main(program):
    """The program in which a procedure that is left at once is main."""
    return Program.of(program.modes, (0,), (Procedure("x", 1, ("leave", 0, (0,))), *program.procedures))


def model_never_fails(program):
    """Whether the rows tell that main fails nowhere."""
    rounds = Rounds(program)
    rows = [*rounds.rows, rounds[None]]
    return all(held[program.main, start][1] == () for held in rows for start in program.starts)


def model_least_catches(program):
    """All least sets of sites, by trying all sets."""
    sites = sorted(program.catches)
    right = []
    for many in range(len(sites) + 1):
        for chosen in combinations(sites, many):
            if not any(set(least) <= set(chosen) for least in right):
                if model_never_fails(program.without_catches(tuple(site for site in sites if site not in chosen))):
                    right.append(chosen)
    return tuple(sorted(right))


class Examples(unittest.TestCase):
    def test_examples_of_the_document(self):
        check_examples(self, EXAMPLES, NAMES)

    def test_each_is_defined_in_its_file(self):
        for call in (idle_catches, never_fails, least_catches, never_paper, is_never_paper):
            self.assertEqual(call.__module__, "deepenough.compare.catches")


class Idle(unittest.TestCase):
    def test_all_situations_at_small_limits(self):
        seen = 0
        for program in [TURN, DOWN, EITHER, *SMALL]:
            shown = set()
            for limit in (0, 1, 2, 3):
                shown |= model_signs(program, limit)
            found = idle_catches(program)
            self.assertEqual(found, tuple(sorted(found)))
            for site in program.catches:
                sign = ("catch", site)
                idle = not sign_limits(program, sign) and not shows(program, None, sign)
                self.assertIs(site in found, idle)
                self.assertFalse(idle and sign in shown)
                seen += idle
        self.assertGreater(seen, 20)

    def test_sites_that_catch_only_at_some_limits(self):
        # The fall at a limit comes to main only if the limit lets the calls ahead of it in.
        caught = Program(1, (0,), Procedure("c", 2, ("call", 0, 1, "b", (0,), 1), ("leave", 1, (0,))),
                         Procedure("b", 2, ("call", 0, 1, "a", (0,), 1), ("leave", 1, (0,))), Procedure("a", 1, ("leave", 0, (0,))))
        self.assertEqual([str(sign_limits(caught, ("catch", site))) for site in (("c", 0), ("b", 0))], ["0", "1"])
        self.assertEqual(idle_catches(caught), ())
        # Here a falls at all limits that let it in, and without one.
        falls = caught.with_procedure(Procedure("a", 1, ("fail", 0, (0,)))).with_caught(("b", 0), None)
        self.assertEqual(str(sign_limits(falls, ("catch", ("c", 0)))), "0+1k")
        never = caught.with_procedure(Procedure("d", 2, ("call", 0, 1, "b", (0,), 1))).with_procedure(
            Procedure("c", 2, ("go", 0, 1, ((0, 0),)), ("leave", 1, (0,))))
        self.assertEqual(idle_catches(never), (("b", 0), ("d", 0)))

    def test_sites_that_do_not_catch_are_none(self):
        self.assertEqual(idle_catches(DOWN), ())
        bare = Program(1, (0,), Procedure("p", 2, ("call", 1, 1, "p", (0,), None), ("call", 1, 0, "p", (0,), 0)))
        self.assertEqual(idle_catches(bare), (("p", 1),))

    def test_they_can_all_be_taken_away(self):
        for program in SMALL:
            self.assertIs(are_alike(program, program.without_catches(idle_catches(program))), True)


class NeverFails(unittest.TestCase):
    def test_rows(self):
        for program in ALL:
            self.assertIs(never_fails(program), model_never_fails(program))
            failing = any(bool(ends_at(program, ("failed", mode))) for mode in range(program.modes))
            self.assertIs(never_fails(program), not failing)

    def test_all_situations_at_small_limits(self):
        for program in [TURN, DOWN, EITHER, *SMALL]:
            failed = any(spot == "failed" for limit in (0, 1, 2, 3) for _, _, spot in all_situations(program, limit))
            self.assertFalse(failed and never_fails(program))
            if not failed and not never_fails(program):
                self.assertTrue(all(outcome(program, limit)[1] == () for limit in (0, 1, 2, 3)))

    def test_other_starts(self):
        falls = Program(2, (0,), Procedure("p", 1, ("leave", 0, (0,)), ("fail", 0, (1,))))
        self.assertEqual([never_fails(falls.with_starts(starts)) for starts in ((0,), (1,), (0, 1))], [True, False, False])

    def test_too_late(self):
        for program in (JUST_401, ROUND_630):
            for call in (never_fails, never_paper):
                check_raises(self, TooMany, {"limit": 400}, call, program)
            check_raises(self, TooMany, {"limit": 400}, idle_catches, program)
        # No site catches, so nothing is asked.
        self.assertEqual(idle_catches(JUST_401.without_catches(JUST_401.catches)), ())
        self.assertIsNone(raised(never_fails, JUST_400))


class LeastSets(unittest.TestCase):
    def test_all_sets(self):
        kinds = set()
        for program in [TURN, DOWN, EITHER, LATE_35, *SMALL]:
            if len(program.catches) <= 5:
                found = least_catches(program)
                self.assertEqual(found, model_least_catches(program))
                kinds.add((len(found), max([len(one) for one in found], default=None)))
        self.assertLessEqual({(0, None), (1, 0), (1, 1), (1, 2), (2, 2)}, kinds)

    def test_one_of_two_can_be_taken_away_but_not_both(self):
        one, other = ("q", 0), ("r", 1)
        self.assertEqual(EITHER.catches, (("main", 0), one, other))
        self.assertEqual([never_fails(EITHER.without_catches(sites)) for sites in ((), (one,), (other,), (one, other))],
                         [True, True, True, False])

    def test_one_catch_more_can_make_main_fail(self):
        # Only if the inner call catches, what fails comes to main in another mode.
        one = Program(2, (0,), Procedure("p", 3, ("call", 0, 1, "q", (0,), 2), ("leave", 1, (0,)), ("leave", 2, (0,)),
                                         ("fail", 2, (1,))),
                      Procedure("q", 3, ("call", 0, 1, "r", (0,), 2), ("leave", 1, (0,)), ("go", 2, 1, ((0, 1),)), ("fail", 1, (1,))),
                      Procedure("r", 1, ("fail", 0, (0,))))
        self.assertEqual([never_fails(one), never_fails(one.with_caught(("q", 0), None))], [False, True])
        self.assertEqual(least_catches(one), ((("p", 0),),))

    def test_programs_that_fail_without_catching(self):
        falls = Program(1, (0,), Procedure("p", 2, ("call", 0, 1, "p", (0,), 1), ("leave", 1, (0,)), ("fail", 0, (0,))))
        self.assertEqual([never_fails(falls), least_catches(falls), least_catches(DOWN)], [False, (), ()])
        self.assertEqual(least_catches(Program(1, (0,), Procedure("p", 1, ("leave", 0, (0,))))), ((),))
        idle = Program(1, (0,), Procedure("p", 2, ("call", 1, 1, "p", (0,), 1)))
        self.assertEqual(least_catches(idle), ((),))

    def test_eight_and_nine_sites_that_catch(self):
        for many in (1, 2, 7):
            sites = tuple(("p", index) for index in range(many))
            self.assertEqual(least_catches(calling(many)), (sites,))
        eight = calling(8)
        self.assertEqual((len(eight.catches), least_catches(eight)), (8, (tuple(("p", index) for index in range(8)),)))
        nine = calling(9)
        self.assertEqual(len(nine.catches), 9)
        check_raises(self, TooMany, {"limit": 8}, least_catches, nine)
        # The ninth one does not catch: it makes main fail, whatever the others do.
        self.assertEqual(least_catches(nine.with_caught(("p", 8), None)), ())
        self.assertEqual(least_catches(calling(9, caught=False)), ())
        check_raises(self, TooMany, {"limit": 8}, least_catches, ROUND_630)

    def test_which_sets_are_looked_at(self):
        late = ring_program((5, 7, 9), 6, 5)
        self.assertEqual(len(late.catches), 8)
        check_raises(self, TooMany, {"limit": 400}, least_catches, late)
        check_raises(self, TooMany, {"limit": 400}, least_catches, JUST_401)
        self.assertEqual(least_catches(JUST_400), ())
        # The empty set is one, so no other one is looked at.
        check_raises(self, TooMany, {"limit": 400}, never_fails, idle_main(late))
        self.assertEqual(least_catches(idle_main(late)), ((),))

    def test_all_limits_count(self):
        # From the limit 3 on it fails, until then the fall is caught.
        one = Program(1, (0,), Procedure("a", 2, ("call", 0, 1, "b", (0,), 1), ("leave", 1, (0,))),
                      Procedure("b", 2, ("call", 0, 1, "c", (0,), 1), ("leave", 1, (0,))),
                      Procedure("c", 2, ("call", 0, 1, "d", (0,), 1), ("leave", 1, (0,))), Procedure("d", 1, ("leave", 0, (0,))))
        self.assertEqual(least_catches(one), ((("a", 0),),))
        self.assertEqual(least_catches(one.with_caught(("a", 0), None)), ())


class Papers(unittest.TestCase):
    def test_papers(self):
        kinds = {}
        for program in ALL:
            paper = never_paper(program)
            kinds[paper[0]] = kinds.get(paper[0], 0) + 1
            self.assertIs(is_never_paper(program, paper), True)
            if never_fails(program):
                self.assertEqual(paper, ("never", *round_paper(program), row(program, None)))
                continue
            limits = [ends_at(program, ("failed", mode)).least for mode in range(program.modes)]
            least = min(limit for limit in limits if limit is not None)
            self.assertEqual(paper[:2], ("fails", least))
            run = Run.of(program, *paper[1:])
            self.assertEqual(run.ended, "failed")
            if least < 4:
                steps = model_steps(program, least)
                self.assertEqual(len(run), min(many for (word, _), many in steps.items() if word == "failed"))
        self.assertGreater(min(kinds["never"], kinds["fails"]), 20)

    def test_just_one_kind_exists(self):
        for program in ALL:
            never = ("never", *round_paper(program), row(program, None))
            self.assertIs(is_never_paper(program, never), never_fails(program))

    def test_runs_at_other_limits_and_without_one(self):
        for program in (DOWN, EITHER.without_catches((("q", 0), ("r", 1))), TURN):
            for limit in (0, 1, 2, 3, 10 ** 39, None):
                for start in range(program.modes):
                    for choices in ((0,) * many for many in range(8)):
                        run = None
                        if start in program.starts and raised(Run, program, limit, start, *choices) is None:
                            run = Run(program, limit, start, *choices)
                        right = run is not None and run.ended == "failed"
                        self.assertIs(is_never_paper(program, ("fails", limit, start, choices)), right)
        fails = Program(1, (0,), Procedure("p", 1, ("fail", 0, (0,))))
        self.assertEqual(never_paper(fails), ("fails", 0, 0, (0,)))
        self.assertIs(is_never_paper(fails, ("fails", None, 0, (0,))), True)

    def test_longer_runs(self):
        wheel = Program(2, (0,), Procedure("p", 1, ("go", 0, 0, ((0, 0), (0, 1))), ("fail", 0, (1,)), ("leave", 0, (0, 1))))
        self.assertEqual(never_paper(wheel), ("fails", 0, 0, (1, 0)))
        for many in (0, 1, 5, 998, 999, 1000, 2000):
            self.assertIs(is_never_paper(wheel, ("fails", None, 0, (0,) * many + (1, 0))), True)
            self.assertIs(is_never_paper(wheel, ("fails", 3, 0, (0,) * many + (1, 1))), False)
            self.assertIs(is_never_paper(wheel, ("fails", 3, 0, (0,) * many)), False)

    def test_a_thousand_steps_and_more(self):
        one = failing_late(STEPS_1000)
        self.assertEqual(never_paper(one), ("fails", 5, 0, (0,) * 1000))
        self.assertIs(is_never_paper(one, never_paper(one)), True)
        more = failing_late(STEPS_1001)
        check_raises(self, TooMany, {"limit": 1000}, never_paper, more)
        self.assertIs(is_never_paper(more, ("fails", 5, 0, (0,) * 1001)), True)
        self.assertIs(is_never_paper(more, ("fails", None, 0, (0,) * 1001)), True)
        self.assertIs(is_never_paper(more, ("fails", 5, 0, (0,) * 1000)), False)
        self.assertIs(is_never_paper(more, ("fails", 4, 0, (0,) * 1001)), False)
        self.assertIs(never_fails(more), False)

    def test_the_fewest_steps_of_all_starts_and_modes(self):
        far = Program(2, (0, 1), Procedure("p", 3, ("go", 0, 1, ((0, 0),)), ("go", 1, 2, ((0, 0),)), ("fail", 2, (0,)),
                                           ("go", 0, 2, ((1, 1),)), ("fail", 2, (1,))))
        self.assertEqual(never_paper(far), ("fails", 0, 1, (0, 0)))
        self.assertEqual(never_paper(far.with_starts((0,))), ("fails", 0, 0, (0, 0, 0)))

    def test_papers_that_begin_later_or_go_round_once_more(self):
        for program in (TURN, EITHER):
            low, span = round_paper(program)[:2]
            for first in range(max(0, low - 1), low + 3):
                for period in (span, span + 1, 2 * span, 300 * span):
                    paper = ("never", first, period, rows_of(program, first + period), row(program, None))
                    self.assertIs(is_never_paper(program, paper), first >= low and period % span == 0)

    def test_judges_never_raise_too_many(self):
        late = idle_main(ring_program((5, 7, 9), 6, 5))
        rows = rows_of(late, 1300)
        for first, period, right in ((0, 630, True), (3, 630, True), (0, 1260, True), (0, 400, False), (0, 629, False)):
            paper = ("never", first, period, rows[:first + period], row(late, None))
            self.assertIs(is_never_paper(late, paper), right)
        check_raises(self, TooMany, {"limit": 400}, never_paper, late)
        paper = ("never", 1, 400, rows_of(JUST_401, 401), row(JUST_401, None))
        self.assertIs(is_never_paper(JUST_401, paper), False)
        self.assertIs(is_never_paper(JUST_401, ("fails", 0, 0, (0, 0))), Run(JUST_401, 0, 0, 0, 0).ended == "failed")

    def test_other_values(self):
        never, fails = never_paper(TURN), never_paper(DOWN)
        rows, held = never[3], never[4]
        wrong = [never[:4], (*never, None), list(never), ("Never", *never[1:]), ("fails", *never[1:]), (None, *never[1:]),
                 ("never", 0, 2, rows, None), ("never", 0, 2, rows, rows[0]), ("never", 0, 2, rows, row(DOWN, None)),
                 ("never", 0, 2, rows, {}), ("never", 0, 2, held, rows), ("never", 0, 2, rows[:1], held),
                 ("never", 0, 2, rows[::-1], held), ("never", 0, 1, rows[:1], held), ("never", 0, 2, list(rows), held),
                 ("never", 1, 1, rows, held), ("never", 0, 0, (), held), ("never", LONG, 2, rows, held),
                 ("never", 0, 2, rows, (held,)), ("never", 0, 2, rows, held, held), never[1:], (["never"], *never[1:]),
                 ("never", 0, 2, rows, {pair: (leaves, falls, 1) for pair, (leaves, falls, _) in held.items()})]
        for value in [*VALUES, *wrong, fails]:
            self.assertIs(is_never_paper(TURN, value), False, value)
        turned = {key: held[key] for key in reversed(list(held))}
        self.assertIs(is_never_paper(TURN, ("never", 0, 2, rows, turned)), True)
        wrong = [fails[:3], (*fails, None), list(fails), ("never", *fails[1:]), ("Fails", *fails[1:]), (None, *fails[1:]),
                 ("fails", 0, 2, ()), ("fails", 0, 2, (0,)), ("fails", 0, 2, (0, 0, 0)), ("fails", 0, 2, [0, 0]),
                 ("fails", 0, 1, (0, 0)), ("fails", 2, 2, (0, 0)), ("fails", 0, 2, (0, False)), ("fails", 0, 2, (0, 1)),
                 ("fails", 0, 2, (0, -1)), ("fails", 0, 2, (0, None)), ("fails", 0, 2, 0), ("fails", 0, 2, None),
                 ("fails", 0, 2, (0, LONG)), (["fails"], *fails[1:]), ("fails", (0,), 2, (0, 0)), ("fails", 0, (2,), (0, 0))]
        for value in [*VALUES, *wrong, never]:
            self.assertIs(is_never_paper(DOWN, value), False, value)
        for value in [*NO_INTEGERS, *NEGATIVE]:
            if value is not None:
                self.assertIs(is_never_paper(DOWN, ("fails", value, 2, (0, 0))), False)
            self.assertIs(is_never_paper(DOWN, ("fails", 0, value, (0, 0))), False)
            self.assertIs(is_never_paper(TURN, ("never", value, 2, rows, held)), False)
            self.assertIs(is_never_paper(TURN, ("never", 0, value, rows, held)), False)

    def test_each_row_counts(self):
        first, period, rows = round_paper(TURN)
        for number in range(len(rows)):
            wrong = {pair: (leaves, (0,), endless) for pair, (leaves, _, endless) in rows[number].items()}
            told = (*rows[:number], wrong, *rows[number + 1:])
            self.assertIs(is_never_paper(TURN, ("never", first, period, told, row(TURN, None))), False)


class Wrong(unittest.TestCase):
    def test_programs(self):
        for value in NO_PROGRAMS:
            for call, more in ((idle_catches, ()), (never_fails, ()), (least_catches, ()), (never_paper, ()),
                               (is_never_paper, (None,))):
                check_raises(self, InvalidProgram, {}, call, value, *more)


if __name__ == "__main__":
    unittest.main()
