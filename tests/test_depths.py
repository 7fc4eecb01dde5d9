"""[0.12], [0.19], [0.22] and stage 12: how many calls are open."""

import unittest

from deepenough.ask.depths import chain_at, depth_limits, most_open
from deepenough.base.limits import Limits
from deepenough.base.programs import Procedure, Program
from deepenough.errors import InvalidLimit, InvalidNumber, InvalidProgram, TooMany
from deepenough.know.rounds import Rounds
from deepenough.know.rows import reached, row

from helper import (DOWN, JUST_400, JUST_401, LATE_35, LONG, NEGATIVE, NO_INTEGERS, NO_PROGRAMS, RING_NAMES, ROUND_40,
                    ROUND_630, TURN, all_pairs, all_situations, check_examples, check_raises, ring_program, some_programs)

EXAMPLES = """
>>> [most_open(TURN, 5), most_open(TURN, None), most_open(DOWN, None), most_open(DOWN, 1), chain_at(DOWN, 9)]
[5, None, 2, 1, (('p', 1), ('p', 1))]
>>> [str(depth_limits(DOWN, 2)), str(depth_limits(DOWN, 3)), str(depth_limits(TURN, 3))]
['2+1k', 'none', '3+1k']
"""

NAMES = {"TURN": TURN, "DOWN": DOWN, "most_open": most_open, "chain_at": chain_at, "depth_limits": depth_limits}
SMALL = some_programs(121, 80, points=4, moves=7)
ALONE = Program(1, (0,), Procedure("p", 1, ("leave", 0, (0,))))

# Main comes to its second call only behind the first one, which needs two calls more: at the limit 1 it falls.
BEHIND = Program(1, (0,), Procedure("main", 3, ("call", 0, 1, "q", (0,), None), ("call", 1, 2, "s", (0,), None)),
                 Procedure("q", 2, ("call", 0, 1, "r", (0,), None), ("leave", 1, (0,))),
                 Procedure("r", 1, ("leave", 0, (0,))), Procedure("s", 1, ("call", 0, 0, "t", (0,), None)),
                 Procedure("t", 1, ("call", 0, 0, "r", (0,), None)))

# Only the start 1 comes to a call.
TWO_STARTS = Program(2, (0, 1), Procedure("p", 2, ("go", 0, 1, ((1, 1),)), ("call", 1, 0, "q", (1,), None)),
                     Procedure("q", 1, ("call", 0, 0, "q", (0,), None)))


def line_program(many):
    """So many procedures, each of which calls the next one."""
    made = [Procedure(RING_NAMES[place], 1, ("call", 0, 0, RING_NAMES[place + 1], (0,), None)) for place in range(many)]
    return Program(1, (0,), *made, Procedure(RING_NAMES[many], 1, ("leave", 0, (0,))))


def model_opening(program, many, most):
    """For the numbers 0, 1, .. the sets of pairs from which 1, .., `many` calls can be opened, with the rows."""
    found = []
    before = [set(all_pairs(program)), *[set() for _ in range(many)]]
    for number in range(most):
        called = {}
        for name, mode in all_pairs(program):
            come = reached(program, number, name, (mode,))
            called[name, mode] = {(move[3], old) for move in program[name].moves if move[0] == "call"
                                  for old in move[4] if number > 0 and (move[1], old) in come}
        # What is opened by a call has one call less.
        before = [before[0], *[{pair for pair in called if called[pair] & held} for held in before[:-1]]]
        found.append((row(program, number), before[1:]))
    return found


class Examples(unittest.TestCase):
    def test_examples_of_the_document(self):
        check_examples(self, EXAMPLES, NAMES)

    def test_each_is_defined_in_its_file(self):
        for call in (most_open, depth_limits, chain_at):
            self.assertEqual(call.__module__, "deepenough.ask.depths")


class OpenCalls(unittest.TestCase):
    def test_all_situations_at_small_limits(self):
        for program in [TURN, DOWN, ALONE, BEHIND, TWO_STARTS, *SMALL]:
            for limit in (0, 1, 2, 3, 4):
                found = all_situations(program, limit)
                many = max(len(sites) for _, sites, _ in found)
                self.assertEqual(most_open(program, limit), many)
                chain = chain_at(program, limit)
                self.assertIn(chain, [sites for _, sites, _ in found])
                self.assertEqual(len(chain), many)

    def test_without_a_limit(self):
        for program, many in ((TURN, None), (DOWN, 2), (ALONE, 0), (BEHIND, 3), (TWO_STARTS, 1), (ROUND_40, None),
                              (LATE_35, 35), (JUST_401, None), *[(line_program(many), many) for many in range(6)]):
            self.assertEqual(most_open(program, None), many)
            for limit in (0, 1, 2, 3, 34, 35, 36, 399, 400):
                self.assertEqual(most_open(program, limit), limit if many is None else min(many, limit))
                chain = chain_at(program, limit)
                self.assertEqual((type(chain), len(chain)), (tuple, most_open(program, limit)))

    def test_finitely_many_situations_without_a_limit(self):
        for program in SMALL:
            many = most_open(program, None)
            if many is not None:
                self.assertEqual(many, max(len(sites) for _, sites, _ in all_situations(program, None)))
                self.assertEqual(most_open(program, many + 1), many)
            else:
                self.assertEqual(most_open(program, 400), 400)

    def test_chains_of_right_sites(self):
        for program in [TURN, DOWN, ROUND_40, LATE_35, JUST_401, *SMALL]:
            for limit in (0, 7, 400):
                name = program.main
                for site in chain_at(program, limit):
                    self.assertEqual(site[0], name)
                    name = program.move(site)[3]

    def test_a_chain_at_its_own_limit(self):
        # Without a limit the only way to two open calls in s is behind q, which falls at the limit 1.
        self.assertEqual([chain_at(BEHIND, limit) for limit in (0, 1)], [(), (("main", 0),)])
        self.assertEqual(chain_at(BEHIND, 2), (("main", 0), ("q", 0)))
        self.assertEqual(chain_at(BEHIND, 3), (("main", 1), ("s", 0), ("t", 0)))
        # In q the call of b comes behind that of r, which is left only if a call can be made in it.
        inner = Program(1, (0,), Procedure("m", 1, ("call", 0, 0, "q", (0,), None)),
                        Procedure("q", 3, ("call", 0, 1, "r", (0,), None), ("call", 1, 2, "b", (0,), None)),
                        Procedure("r", 2, ("call", 0, 1, "b", (0,), None), ("leave", 1, (0,))),
                        Procedure("b", 1, ("leave", 0, (0,))))
        self.assertEqual([chain_at(inner, 2), chain_at(inner, 3)], [(("m", 0), ("q", 0)), (("m", 0), ("q", 0), ("r", 0))])

    def test_other_starts(self):
        self.assertEqual([most_open(TWO_STARTS.with_starts(starts), None) for starts in ((0,), (1,))], [0, 1])
        self.assertEqual(chain_at(TWO_STARTS, 400), (("p", 1),))


class SetsOfLimits(unittest.TestCase):
    def test_at_least_so_many(self):
        for program in [TURN, DOWN, ALONE, BEHIND, TWO_STARTS, ROUND_40, LATE_35, *SMALL]:
            for many in (0, 1, 2, 3, 5, 35, 36, 39, 40):
                found = depth_limits(program, many)
                self.assertIsInstance(found, Limits)
                self.assertEqual([limit for limit in range(60) if limit in found],
                                 [limit for limit in range(60) if most_open(program, limit) >= many])
                self.assertTrue(found.is_finite or (~found).is_finite)

    def test_texts(self):
        self.assertEqual([str(depth_limits(TURN, many)) for many in (0, 1, 40)], ["0+1k", "1+1k", "40+1k"])
        self.assertEqual([str(depth_limits(ALONE, many)) for many in (0, 1, 40)], ["0+1k", "none", "none"])
        self.assertEqual([str(depth_limits(LATE_35, many)) for many in (35, 36, 40)], ["35+1k", "none", "none"])
        self.assertEqual([str(depth_limits(line_program(5), many)) for many in (5, 6)], ["5+1k", "none"])

    def test_all_pairs_of_rows_and_sets(self):
        for program in [TURN, DOWN, BEHIND, TWO_STARTS, *SMALL[:25]]:
            for many in (1, 2, 4):
                found = model_opening(program, many, 8)
                begun = {(program.main, start) for start in program.starts}
                self.assertEqual([number for number, (_, held) in enumerate(found) if begun & held[-1]],
                                 [number for number in range(8) if number in depth_limits(program, many)])

    def test_just_400_and_more(self):
        # First plus period is 400, and from each number of calls on up to `many` other calls can be opened.
        self.assertEqual(depth_limits(JUST_400, 0), Limits.every())
        for many in (1, 2, 40):
            check_raises(self, TooMany, {"limit": 400}, depth_limits, JUST_400, many)
        # First is 8 and the period is 390; with many calls first becomes as great as their number.
        late = ring_program((13, 15), 6, 6, chain=8)
        self.assertEqual((Rounds(late).first, Rounds(late).period), (7, 390))
        for many in (0, 1, 7, 8, 10):
            self.assertEqual(depth_limits(late, many), Limits.since(many))
        for many in (11, 12, 40):
            check_raises(self, TooMany, {"limit": 400}, depth_limits, late, many)
        for many, different in ((7, 397), (10, 400), (11, 401)):
            found = model_opening(late, many, 410)
            self.assertEqual(len({repr(pair) for pair in [(held, [sorted(one) for one in sets]) for held, sets in found]}),
                             different)

    def test_calls_of_other_procedures_count_among_the_sets(self):
        program = ring_program((13, 15), 6, 5, chain=2)
        self.assertEqual((Rounds(program).first, Rounds(program).period), (1, 390))
        idle = Program.of(6, (0,), (Procedure("x", 1, ("leave", 0, (0,))), *program.procedures))
        self.assertEqual((Rounds(idle).first, Rounds(idle).period), (1, 390))
        self.assertEqual([depth_limits(idle, many) for many in (0, 1, 10)], [Limits.every(), Limits.none(), Limits.none()])
        check_raises(self, TooMany, {"limit": 400}, depth_limits, idle, 11)

    def test_too_late(self):
        for program in (JUST_401, ROUND_630):
            for many in (0, 1, 40):
                check_raises(self, TooMany, {"limit": 400}, depth_limits, program, many)
            # The others do not ask how the rows come round.
            self.assertEqual((most_open(program, 400), most_open(program, None)), (400, None))
            self.assertEqual(len(chain_at(program, 400)), 400)


class Wrong(unittest.TestCase):
    def test_programs(self):
        for value in NO_PROGRAMS:
            check_raises(self, InvalidProgram, {}, most_open, value, -1)
            check_raises(self, InvalidProgram, {}, depth_limits, value, -1)
            check_raises(self, InvalidProgram, {}, chain_at, value, None)

    def test_limits(self):
        for value in [*NO_INTEGERS, *NEGATIVE, 401, 402, 10 ** 20, LONG]:
            check_raises(self, InvalidLimit, {}, chain_at, JUST_401, value)
            if value is not None:
                check_raises(self, InvalidLimit, {}, most_open, JUST_401, value)

    def test_numbers_ahead_of_too_many(self):
        for value in [*NO_INTEGERS, *NEGATIVE, 41, 42, 400, LONG]:
            check_raises(self, InvalidNumber, {"value": value}, depth_limits, JUST_401, value)


if __name__ == "__main__":
    unittest.main()
