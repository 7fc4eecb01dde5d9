"""[0.21], [0.22], [0.23], [14.1] and stage 14: programs compared."""

import unittest

from deepenough.ask.signs import sign_limits
from deepenough.base.limits import Limits
from deepenough.base.programs import Procedure, Program
from deepenough.compare.programs import (are_alike, compare_paper, is_compare_paper, less_limits, parting_limit,
                                         same_limits)
from deepenough.errors import InvalidOperation, InvalidProgram, TooMany
from deepenough.know.rounds import Rounds
from deepenough.know.rows import row

from helper import (DOWN, JUST_400, JUST_401, LONG, NEGATIVE, NO_INTEGERS, NO_PROGRAMS, ROUND_40, ROUND_630, TURN,
                    VALUES, check_examples, check_raises, members, model_row, raised, ring_program, rows_of,
                    some_programs)

EXAMPLES = """
>>> ONE = Program(2, (0,), Procedure("p", 3, ("go", 0, 2, ((0, 1),)), ("leave", 2, (0, 1))))
>>> [str(same_limits(TURN, ONE)), str(less_limits(ONE, TURN)), parting_limit(TURN, ONE), are_alike(TURN, TURN), compare_paper(TURN, ONE)]
['0+2k', '0+2k', 1, True, ('apart', 1, 0)]
"""

NAMES = {"TURN": TURN, "Program": Program, "Procedure": Procedure, "same_limits": same_limits, "less_limits": less_limits,
         "parting_limit": parting_limit, "are_alike": are_alike, "compare_paper": compare_paper}
ONE = Program(2, (0,), Procedure("p", 3, ("go", 0, 2, ((0, 1),)), ("leave", 2, (0, 1))))
CALLS = (same_limits, less_limits, are_alike, parting_limit, compare_paper)


def pairs_of_programs(seed, many):
    """Small programs with equal modes and starts, some of them nearly equal."""
    found = []
    programs = some_programs(seed, many, points=4, moves=6, modes=2)
    for one in programs:
        for other in programs:
            if (one.modes, one.starts) == (other.modes, other.starts):
                found.append((one, other))
        found.extend([(one, one.with_caught(site, None)) for site in one.catches])
    return found


SMALL = [*pairs_of_programs(141, 40), (TURN, ONE), (TURN, TURN), (DOWN, DOWN.with_caught(("p", 1), 2)), (ONE, TURN)]


# Rows with the periods 396 and 20, and with 154 and 26: together they come round after 1980 and after 2002.
ROUND_396 = ring_program((11, 18), 6, 5)
ROUND_20 = ring_program((10,), 6, 5)
ROUND_154 = ring_program((7, 11), 6, 5)
ROUND_26 = ring_program((13,), 6, 5)


def idle(program):
    """The program in which a procedure that does nothing is main."""
    return Program.of(program.modes, (0,), (Procedure("x", 1, ("leave", 0, (0,))), *program.procedures))


def triples(program, limit):
    found = row(program, limit)
    return [found[program.main, start] for start in program.starts]


def does_no_more(here, there):
    return all(set(one[0]) <= set(other[0]) and set(one[1]) <= set(other[1]) and one[2] <= other[2]
               for one, other in zip(here, there))


class Examples(unittest.TestCase):
    def test_examples_of_the_document(self):
        check_examples(self, EXAMPLES, NAMES)

    def test_each_is_defined_in_its_file(self):
        for call in (*CALLS, is_compare_paper):
            self.assertEqual(call.__module__, "deepenough.compare.programs")


class SetsOfLimits(unittest.TestCase):
    def test_rows_of_the_main_procedures(self):
        for one, other in SMALL:
            both = [(triples(one, limit), triples(other, limit)) for limit in range(60)]
            same = [limit for limit, (here, there) in enumerate(both) if here == there]
            less = [limit for limit, (here, there) in enumerate(both) if does_no_more(here, there)]
            self.assertEqual(members(same_limits(one, other), 60), same)
            self.assertEqual(members(less_limits(one, other), 60), less)
            self.assertEqual(less_limits(one, other) & less_limits(other, one), same_limits(one, other))
            parted = [limit for limit in range(60) if limit not in same]
            self.assertEqual(parting_limit(one, other), parted[0] if parted else None)
            without = triples(one, None) == triples(other, None)
            self.assertIs(are_alike(one, other), not parted and without)

    def test_all_situations_at_small_limits(self):
        for one, other in SMALL[::7]:
            for limit in (0, 1, 2, 3, 4):
                here, there = [[model_row(program, limit)[program.main, start] for start in program.starts]
                               for program in (one, other)]
                self.assertIs(limit in same_limits(one, other), here == there)
                self.assertIs(limit in less_limits(one, other), does_no_more(here, there))

    def test_each_start_counts(self):
        either = Program(2, (0, 1), Procedure("p", 1, ("leave", 0, (0, 1))))
        turned = Program(2, (0, 1), Procedure("p", 2, ("go", 0, 1, ((0, 1), (1, 0))), ("leave", 1, (0, 1))))
        self.assertEqual([str(same_limits(either, turned)), str(less_limits(either, turned))], ["none", "none"])
        self.assertEqual(compare_paper(either, turned), ("apart", 0, 0))
        second = Program(2, (0, 1), Procedure("p", 1, ("leave", 0, (0, 1)), ("fail", 0, (1,))))
        self.assertEqual([str(less_limits(either, second)), str(less_limits(second, either))], ["0+1k", "none"])
        self.assertEqual(compare_paper(either, second), ("apart", 0, 1))

    def test_only_the_main_procedures_count(self):
        self.assertEqual(same_limits(idle(ROUND_40), idle(ring_program((3,), 3, 3))), Limits.every())
        self.assertIs(are_alike(idle(ROUND_396), idle(ROUND_20)), True)
        self.assertIs(are_alike(ROUND_396, ROUND_20), False)

    def test_long_periods(self):
        found = same_limits(ROUND_396, ROUND_20)
        self.assertEqual((Rounds(ROUND_396).period, Rounds(ROUND_20).period), (396, 20))
        self.assertEqual(members(found, 2100), [limit for limit in range(2100)
                                                if triples(ROUND_396, limit) == triples(ROUND_20, limit)])
        self.assertEqual(members(less_limits(ROUND_20, ROUND_396), 500),
                         [limit for limit in range(500) if does_no_more(triples(ROUND_20, limit), triples(ROUND_396, limit))])

    def test_too_many(self):
        for call in CALLS:
            for one, other in ((JUST_401, JUST_400), (JUST_400, JUST_401), (ROUND_630, JUST_401), (JUST_401, JUST_401)):
                check_raises(self, TooMany, {"limit": 400}, call, one, other)
            for one, other in ((ROUND_154, ROUND_26), (ROUND_26, ROUND_154), (idle(ROUND_26), idle(ROUND_154))):
                check_raises(self, TooMany, {"limit": 2000}, call, one, other)
            # Late rows are told ahead of long periods.
            check_raises(self, TooMany, {"limit": 400}, call, JUST_401, ring_program((27,), 6, 6))
            self.assertIsNone(raised(call, JUST_400, ring_program((25,), 6, 6)))

    def test_programs_that_do_the_same_at_all_limits_and_not_without_one(self):
        # At each limit TURN is left, in one mode or the other, and main is left in the mode 0 then.
        either = Program(2, (0,), Procedure("main", 3, ("call", 0, 1, "p", (0,), None), ("go", 1, 2, ((0, 0), (1, 0))),
                                            ("leave", 2, (0,))), TURN["p"])
        falls = Program(2, (0,), Procedure("main", 2, ("call", 0, 1, "q", (0,), 1), ("leave", 1, (0,))),
                        Procedure("q", 3, ("call", 0, 1, "p", (0,), None), ("go", 1, 2, ((0, 0), (1, 0))), ("leave", 2, (0,))),
                        TURN["p"])
        plain = Program(2, (0,), Procedure("p", 1, ("leave", 0, (0,))))
        self.assertEqual(same_limits(falls, plain), Limits.every())
        self.assertEqual([are_alike(falls, plain), parting_limit(falls, plain)], [False, None])
        paper = compare_paper(falls, plain)
        self.assertEqual(paper[0], "same")
        self.assertIs(is_compare_paper(falls, plain, paper), True)
        self.assertEqual([parting_limit(either, plain), str(same_limits(either, plain))], [0, "1+1k"])

    def test_an_idle_catch_can_be_taken_away(self):
        seen = 0
        for program in some_programs(142, 80, points=4, moves=7):
            for site in program.catches:
                if not sign_limits(program, ("catch", site)):
                    seen += 1
                    self.assertIs(are_alike(program, program.with_caught(site, None)), True)
        self.assertGreater(seen, 10)

    def test_a_catch_that_is_not_idle(self):
        program = Program(1, (0,), Procedure("main", 3, ("call", 0, 1, "q", (0,), 2), ("leave", 1, (0,)), ("leave", 2, (0,))),
                          Procedure("q", 3, ("call", 0, 1, "r", (0,), 1), ("leave", 1, (0,))), Procedure("r", 1, ("leave", 0, (0,))))
        self.assertEqual(str(same_limits(program, program.without_catches((("q", 0),)))), "0+1k")
        self.assertEqual(str(same_limits(program, program.without_catches((("main", 0),)))), "1+1k")
        self.assertEqual(str(same_limits(program, program.without_catches(program.catches))), "2+1k")


class Papers(unittest.TestCase):
    def test_papers(self):
        kinds = {}
        for one, other in SMALL:
            paper = compare_paper(one, other)
            limit = parting_limit(one, other)
            if limit is None:
                here, there = Rounds(one), Rounds(other)
                self.assertEqual((paper[0], len(paper)), ("same", 5))
                first, period = paper[1:3]
                self.assertGreaterEqual(first, max(here.first, there.first))
                self.assertEqual((period % here.period, period % there.period), (0, 0))
                self.assertEqual(paper[3:], (rows_of(one, first + period), rows_of(other, first + period)))
            else:
                starts = [start for start in one.starts if row(one, limit)[one.main, start] != row(other, limit)[other.main, start]]
                self.assertEqual(paper, ("apart", limit, starts[0]))
            kinds[paper[0]] = kinds.get(paper[0], 0) + 1
            self.assertIs(is_compare_paper(one, other, paper), True)
        self.assertGreater(min(kinds["same"], kinds["apart"]), 20)

    def test_just_one_kind_exists(self):
        for one, other in SMALL:
            here, there = Rounds(one), Rounds(other)
            first, period = max(here.first, there.first), here.period * there.period
            same = ("same", first, period, rows_of(one, first + period), rows_of(other, first + period))
            self.assertIs(is_compare_paper(one, other, same), parting_limit(one, other) is None)
            for limit in (0, 1, 2, 7, 40, 2400):
                for start in range(one.modes):
                    right = start in one.starts and row(one, limit)[one.main, start] != row(other, limit)[other.main, start]
                    self.assertIs(is_compare_paper(one, other, ("apart", limit, start)), right)

    def test_the_least_limit_and_then_the_least_start(self):
        late = ring_program((4, 5), 3, 3)
        one, other = late.with_starts((0, 1, 2)), ring_program((4, 4), 3, 3).with_starts((0, 1, 2))
        limit = parting_limit(one, other)
        self.assertGreater(limit, 0)
        starts = [start for start in (0, 1, 2) if row(one, limit)["p", start] != row(other, limit)["p", start]]
        self.assertEqual(compare_paper(one, other), ("apart", limit, starts[0]))
        for start in (0, 1, 2):
            self.assertIs(is_compare_paper(one, other, ("apart", limit, start)), start in starts)
            self.assertIs(is_compare_paper(one, other, ("apart", limit - 1, start)), False)

    def test_limits_up_to_2400(self):
        for one, other in ((TURN, ONE), (ROUND_396, ROUND_20), (JUST_400, JUST_401), (ROUND_154, ROUND_26)):
            rows, others = rows_of(one, 2403), rows_of(other, 2403)
            start = one.starts[0]
            for limit in (0, 1, 7, 8, 9, 399, 400, 401, 1999, 2000, 2001, 2397, 2398, 2399, 2400, 2401, 2402):
                right = limit <= 2400 and rows[limit][one.main, start] != others[limit][other.main, start]
                self.assertIs(is_compare_paper(one, other, ("apart", limit, start)), right)
            self.assertIs(is_compare_paper(one, other, ("apart", LONG, start)), False)

    def test_first_plus_period_greater_than_400(self):
        one, other = idle(ROUND_396), idle(ROUND_20)
        for _ in range(2):
            check_raises(self, TooMany, {"limit": 400}, compare_paper, one, other)
            self.assertEqual(same_limits(one, other), Limits.every())
            self.assertEqual((parting_limit(one, other), are_alike(one, other)), (None, True))
        paper = ("same", 0, 1980, rows_of(one, 1980), rows_of(other, 1980))
        self.assertIs(is_compare_paper(one, other, paper), False)
        # If they part it does not matter how late both come round.
        self.assertEqual(compare_paper(ROUND_396, ROUND_20)[0], "apart")
        paper = compare_paper(JUST_400, JUST_400)
        self.assertEqual(paper[:3], ("same", 0, 400))
        self.assertIs(is_compare_paper(JUST_400, JUST_400, paper), True)
        both = idle(ring_program((13, 15), 6, 5, chain=2))
        self.assertEqual(compare_paper(both, both)[:3], ("same", 1, 390))

    def test_papers_that_begin_later_or_go_round_once_more(self):
        one, other = idle(ring_program((2,), 3, 3)), idle(ring_program((3,), 3, 3, chain=2))
        self.assertEqual([(Rounds(each).first, Rounds(each).period) for each in (one, other)], [(0, 4), (1, 6)])
        self.assertEqual(compare_paper(one, other)[:3], ("same", 1, 12))
        self.assertEqual([str(same_limits(one, other)), str(less_limits(other, one))], ["0+1k", "0+1k"])
        for first, period in ((1, 12), (0, 12), (2, 12), (1, 24), (1, 4), (1, 6), (7, 36), (1, 13), (4, 396), (16, 384),
                              (17, 384), (5, 396), (1, 18), (1, 8)):
            right = first >= 1 and period % 12 == 0 and first + period <= 400
            paper = ("same", first, period, rows_of(one, first + period), rows_of(other, first + period))
            self.assertIs(is_compare_paper(one, other, paper), right)

    def test_judges_never_raise_too_many(self):
        for one, other in ((JUST_401, JUST_401), (ROUND_630, JUST_401), (idle(ROUND_26), idle(ROUND_154))):
            for first, period in ((0, 1), (1, 399), (0, 400), (1, 400)):
                many = first + period
                paper = ("same", first, period, rows_of(one, many), rows_of(other, many))
                self.assertIs(is_compare_paper(one, other, paper), False)
            self.assertIsInstance(is_compare_paper(one, other, ("apart", 2400, 0)), bool)
            self.assertIsInstance(raised(compare_paper, one, other), TooMany)

    def test_other_values(self):
        same, apart = compare_paper(TURN, TURN), compare_paper(TURN, ONE)
        other = TURN.with_procedure(Procedure("q", 1))
        self.assertEqual(same[:3], ("same", 0, 2))
        wrong = [same[:4], (*same, None), list(same), ("Same", *same[1:]), ("apart", *same[1:]), (None, *same[1:]),
                 ("same", 0, 1, same[3][:1], same[4][:1]), ("same", 0, 2, list(same[3]), same[4]),
                 ("same", 0, 2, same[3], list(same[4])), ("same", 0, 2, same[3][:1], same[4]), ("same", 0, 0, (), ()),
                 ("same", 0, 2, same[3], same[4][:1]), ("same", 0, 2, same[3][::-1], same[4]), ("same", 0, 2, None, same[4]),
                 ("same", 0, 2, same[3], same[4][::-1]), ("same", 0, 2, same[3], None), ("same", 1, 1, same[3], same[4]),
                 ("same", 0, LONG, same[3], same[4]), ("same", LONG, 2, same[3], same[4]), same[1:], ("same", 0, 2, same[3]),
                 ("same", 0, 2, same[3], rows_of(other, 2)), (["same"], *same[1:]), ("same", 0, 2, rows_of(DOWN, 2), same[4])]
        for value in [*VALUES, *wrong, apart, ("apart", 0, 0), ("apart", 1, 0)]:
            self.assertIs(is_compare_paper(TURN, TURN, value), False, value)
        # The rows of the first program stand first.
        paper = ("same", 0, 2, same[3], rows_of(other, 2))
        self.assertIs(is_compare_paper(TURN, other, paper), True)
        self.assertIs(is_compare_paper(other, TURN, paper), False)
        wrong = [apart[:2], (*apart, None), list(apart), ("Apart", 1, 0), ("same", 1, 0), (None, 1, 0), ("apart", 0, 0),
                 ("apart", 1, 1), ("apart", 1, 2), ("apart", 1, -1), ("apart", 2, 0), ("apart", (1,), 0), ("apart", 1, (0,)),
                 ("apart", 1, "0"), (["apart"], 1, 0)]
        for value in [*VALUES, *wrong]:
            self.assertIs(is_compare_paper(TURN, ONE, value), False, value)
        for value in [*NO_INTEGERS, *NEGATIVE]:
            self.assertIs(is_compare_paper(TURN, ONE, ("apart", value, 0)), False)
            self.assertIs(is_compare_paper(TURN, ONE, ("apart", 1, value)), False)
            self.assertIs(is_compare_paper(TURN, TURN, ("same", value, 2, *same[3:])), False)
            self.assertIs(is_compare_paper(TURN, TURN, ("same", 0, value, *same[3:])), False)
        for limit in (1, 3, 2399):
            self.assertIs(is_compare_paper(TURN, ONE, ("apart", limit, 0)), True)


class Wrong(unittest.TestCase):
    def test_programs(self):
        for value in NO_PROGRAMS:
            for call in CALLS:
                check_raises(self, InvalidProgram, {}, call, value, JUST_401)
                check_raises(self, InvalidProgram, {}, call, JUST_401, value)
                check_raises(self, InvalidProgram, {}, call, value, value)
            check_raises(self, InvalidProgram, {}, is_compare_paper, value, TURN, None)
            check_raises(self, InvalidProgram, {}, is_compare_paper, TURN, value, None)
            check_raises(self, InvalidProgram, {}, is_compare_paper, value, DOWN, None)

    def test_unlike_modes_or_starts_ahead_of_too_many(self):
        for one, other in ((TURN, DOWN), (TURN, TURN.with_starts((1,))), (TURN, TURN.with_starts((0, 1))),
                           (JUST_401, TURN), (TURN, JUST_401), (JUST_401, JUST_401.with_starts((1,))),
                           (ROUND_26, ROUND_154.with_starts((5,))), (Program(3, (0,), *TURN.procedures), TURN)):
            for call in CALLS:
                check_raises(self, InvalidOperation, {}, call, one, other)
            check_raises(self, InvalidOperation, {}, is_compare_paper, one, other, None)


if __name__ == "__main__":
    unittest.main()
