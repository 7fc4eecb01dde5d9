"""[0.15] to [0.17], [6.1] and stage 6: rows."""

import unittest

from deepenough.base.programs import Procedure, Program
from deepenough.errors import InvalidLimit, InvalidModes, InvalidProgram, InvalidRow, TooMany, UnknownName
from deepenough.know.rows import is_row, next_row, reached, row

from helper import (DOWN, JUST_400, JUST_401, LATE_35, LONG, NO_INTEGERS, NO_LIMITS, NO_PROGRAMS, NO_TUPLES, ROUND_40,
                    ROUND_630, TURN, VALUES, all_pairs, all_situations, check_examples, check_raises, entered,
                    model_limitless, model_next, model_row, raised, some_programs)

EXAMPLES = """
>>> [row(TURN, 0), row(TURN, 1), row(TURN, None), row(TURN, 10 ** 30 + 1) == row(TURN, 1), next_row(TURN, row(TURN, 1)) == row(TURN, 0)]
[{('p', 0): ((1,), (), False), ('p', 1): ((0,), (), False)}, {('p', 0): ((0,), (), False), ('p', 1): ((1,), (), False)}, {('p', 0): ((), (), True), ('p', 1): ((), (), True)}, True, True]
>>> [row(DOWN, 0)[("p", 2)], row(DOWN, 1)[("p", 2)], row(DOWN, 2)[("p", 2)], row(DOWN, None) == row(DOWN, 2), reached(DOWN, 1, "p", (2,))]
[((), (1,), False), ((), (0,), False), ((0,), (), False), True, ((0, 2), (1, 1))]
"""

NAMES = {"TURN": TURN, "DOWN": DOWN, "row": row, "next_row": next_row, "reached": reached}
SMALL = some_programs(21, 60, points=4, moves=7)

# The names are not in ascending order, and q is entered only by p.
UNORDERED = Program(2, (1,), Procedure("q", 2, ("call", 0, 1, "p", (0, 1), 1), ("leave", 1, (0,)), ("fail", 1, (1,))),
                    Procedure("p", 2, ("go", 0, 1, ((0, 1), (1, 0), (1, 1))), ("call", 1, 0, "q", (0,), None),
                              ("leave", 1, (0, 1))))


class Examples(unittest.TestCase):
    def test_examples_of_the_document(self):
        check_examples(self, EXAMPLES, NAMES)

    def test_each_is_defined_in_its_file(self):
        for call in (row, is_row, next_row, reached):
            self.assertEqual(call.__module__, "deepenough.know.rows")


class Rows(unittest.TestCase):
    def test_all_situations_at_small_limits(self):
        for program in [TURN, DOWN, UNORDERED, *SMALL]:
            for limit in (0, 1, 2, 3):
                self.assertEqual(row(program, limit), model_row(program, limit))

    def test_each_follows_from_the_one_before(self):
        for program in [UNORDERED, ROUND_40, *SMALL]:
            held = model_next(program, {pair: ((), pair[1:], False) for pair in all_pairs(program)})
            for limit in range(9):
                self.assertEqual(row(program, limit), held)
                self.assertEqual(next_row(program, held), row(program, limit + 1))
                held = model_next(program, held)

    def test_without_a_limit(self):
        for program in [TURN, DOWN, UNORDERED, ROUND_40, *SMALL]:
            self.assertEqual(row(program, None), model_limitless(program))

    def test_ends_without_a_limit_are_ends_at_all_great_limits(self):
        for program in SMALL:
            limitless = row(program, None)
            for limit in (200, 201, 10 ** 39):
                found = row(program, limit)
                for pair, (leaves, fails, _) in limitless.items():
                    self.assertLessEqual(set(leaves), set(found[pair][0]))
                    self.assertLessEqual(set(fails), set(found[pair][1]))

    def test_deeper_and_deeper(self):
        deep = Program(1, (0,), Procedure("p", 1, ("call", 0, 0, "q", (0,), None)),
                       Procedure("q", 1, ("call", 0, 0, "p", (0,), None)), Procedure("r", 2, ("go", 0, 1, ((0, 0),))))
        self.assertEqual(row(deep, None), {("p", 0): ((), (), True), ("q", 0): ((), (), True), ("r", 0): ((), (), False)})
        for limit in (0, 1, 7, 10 ** 39):
            self.assertEqual(row(deep, limit)["p", 0], ((), (0,), False))

    def test_round_and_round(self):
        again = Program(2, (0,), Procedure("p", 2, ("go", 0, 1, ((0, 1), (1, 1))), ("go", 1, 0, ((1, 0),))),
                        Procedure("q", 2, ("call", 0, 1, "p", (1,), None), ("leave", 0, (0,))),
                        Procedure("r", 1, ("call", 0, 0, "q", (0,), 0)))
        for limit in (0, 1, 2, 10 ** 39):
            self.assertEqual(row(again, limit)["p", 0], ((), (), True))
        self.assertEqual([row(again, limit)["q", 1] for limit in (0, 1)], [((), (1,), False), ((), (), True)])
        # A call that cannot enter, and is caught where it is made, can be made for ever.
        self.assertEqual([row(again, limit)["r", 0][2] for limit in (0, 1, 2, None)], [True, True, True, True])
        self.assertEqual([row(again, limit)["r", 1][2] for limit in (0, 1, 2, None)], [False] * 4)

    def test_the_keys_are_in_ascending_order(self):
        for program in [UNORDERED, *SMALL]:
            for found in (row(program, 0), row(program, 3), row(program, None), next_row(program, row(program, 1))):
                self.assertEqual(list(found), all_pairs(program))

    def test_a_new_dict_each_time(self):
        for limit in (0, 5, 10 ** 39, None):
            first = row(UNORDERED, limit)
            kept = dict(first)
            first.clear()
            first["p", 0] = None
            self.assertEqual(row(UNORDERED, limit), kept)
        held = row(UNORDERED, 2)
        next_row(UNORDERED, held).clear()
        self.assertEqual(held, row(UNORDERED, 2))
        self.assertEqual(next_row(UNORDERED, held), row(UNORDERED, 3))

    def test_kinds_of_values(self):
        for limit in (0, 10 ** 39, None):
            for (name, mode), (leaves, fails, endless) in row(UNORDERED, limit).items():
                self.assertEqual((type(name), type(mode), type(endless)), (str, int, bool))
                for modes in (leaves, fails):
                    self.assertEqual((type(modes), {type(held) for held in modes} <= {int}), (tuple, True))

    def test_greatest_programs(self):
        for program in some_programs(22, 12, procedures=6, points=8, moves=16, modes=6):
            held = row(program, 0)
            for limit in range(1, 4):
                held = model_next(program, held)
                self.assertEqual(row(program, limit), held)
            self.assertEqual(row(program, None), model_limitless(program))


class HowTheyComeRound(unittest.TestCase):
    def test_great_limits(self):
        for number in (0, 1, 39, 10 ** 30 + 7, LONG):
            self.assertEqual(row(ROUND_40, number), row(ROUND_40, number % 40))
            self.assertEqual(row(TURN, number), row(TURN, number % 2))
        for number in (35, 36, 399, 400, 10 ** 39):
            self.assertEqual(row(LATE_35, number), row(LATE_35, 35))
        self.assertNotEqual(row(LATE_35, 34), row(LATE_35, 35))
        self.assertNotEqual(row(ROUND_40, 20), row(ROUND_40, 0))

    def test_first_plus_period_of_400(self):
        self.assertEqual(row(JUST_400, 400), row(JUST_400, 0))
        self.assertEqual(row(JUST_400, 10 ** 39 + 399), row(JUST_400, 399))
        self.assertEqual(row(JUST_400, 399), row(JUST_400, 10 ** 39 - 1))

    def test_first_plus_period_of_401_and_more(self):
        for program in (JUST_401, ROUND_630):
            held = row(program, 398)
            self.assertEqual(row(program, 399), next_row(program, held))
            for limit in (400, 401, 402, 1000, 10 ** 39, LONG):
                check_raises(self, TooMany, {"limit": 400}, row, program, limit)
            self.assertEqual(row(program, None), model_limitless(program))
            self.assertEqual(row(program, 399), next_row(program, held))

    def test_asked_in_any_order(self):
        fresh = Program.of(ROUND_40.modes, ROUND_40.starts, ROUND_40.procedures)
        for limit in (10 ** 39, 3, None, 41, 0, 399, 400, 17):
            self.assertEqual(row(fresh, limit), row(ROUND_40, None if limit is None else limit % 40))

    def test_a_renamed_program_has_the_same_rows_by_other_names(self):
        for program in SMALL:
            names = {name: new for name, new in zip(program.names, ("x", "w", "v"))}
            other = program.renamed(names)
            for limit in (0, 1, 4, 10 ** 39, None):
                expected = {(names[name], mode): triple for (name, mode), triple in row(program, limit).items()}
                self.assertEqual(row(other, limit), expected)

    def test_wrong_arguments(self):
        for value in NO_PROGRAMS:
            check_raises(self, InvalidProgram, {}, row, value, 0)
            check_raises(self, InvalidProgram, {}, row, value, -1)
        for value in NO_LIMITS:
            check_raises(self, InvalidLimit, {}, row, TURN, value)
            check_raises(self, InvalidLimit, {}, row, JUST_401, value)


class RowsByTheirForm(unittest.TestCase):
    def wrong_rows(self):
        right = row(TURN, 0)
        triples = [None, (), ((), ()), ((), (), False, False), [(), (), False], ((), (), None), ((), (), 0),
                   ((), (), 1), ([], (), False), ((), [], False), ((1, 0), (), False), ((), (0, 0), False),
                   ((2,), (), False), ((), (2,), True), ((True,), (), False), ((), (False,), False), ((-1,), (), True),
                   (("0",), (), True), (((0,),), (), True), (None, (), True), ((), None, True), (0, 0, True), "",
                   ((), (), "True"), ((LONG,), (), False), (([],), (), False), ({}, (), False), ((None,), (), False)]
        for triple in [*triples, *VALUES]:
            yield {**right, ("p", 0): triple}
            yield {**right, ("p", 1): triple}
        triple = ((), (), False)
        for key in (("p", 2), ("p", -1), ("q", 0), "p", ("p",), ("p", 0, 0), 0, None, ("p", "0"), (0, "p"), ("p", (0,)),
                    ("p", None), (("p", 0),)):
            yield {**right, key: triple}
            yield {("p", 0): triple, key: triple}
        yield {("p", 0): triple}
        yield {("p", False): triple, ("p", True): triple}
        yield {("p", 0): triple, ("p", True): triple}
        yield {}

    def test_rows(self):
        for program in [TURN, DOWN, UNORDERED]:
            for limit in (0, 1, 2, None):
                self.assertIs(is_row(program, row(program, limit)), True)
        every = (0, 1)
        for triple in (((), (), True), ((), (), False), (every, every, True), ((1,), (0,), False)):
            self.assertIs(is_row(TURN, {("p", 0): triple, ("p", 1): triple}), True)

    def test_keys_in_another_order(self):
        for limit in (0, 1, None):
            found = row(UNORDERED, limit)
            turned = {key: found[key] for key in reversed(list(found))}
            self.assertIs(is_row(UNORDERED, turned), True)
            self.assertEqual(next_row(UNORDERED, turned), next_row(UNORDERED, found))
            self.assertEqual(list(next_row(UNORDERED, turned)), all_pairs(UNORDERED))

    def test_other_values(self):
        for value in [*VALUES, *self.wrong_rows(), row(DOWN, 0), row(UNORDERED, 0), list(row(TURN, 0).items())]:
            self.assertIs(is_row(TURN, value), False, value)
            check_raises(self, InvalidRow, {}, next_row, TURN, value)

    def test_rows_that_no_limit_has(self):
        for program in SMALL[:20]:
            every = tuple(range(program.modes))
            for triple in (((), (), True), ((), (), False), (every, every, True), (every, (), False), ((0,), (0,), True)):
                held = {pair: triple for pair in all_pairs(program)}
                self.assertIs(is_row(program, held), True)
                self.assertEqual(next_row(program, held), model_next(program, held))
        # Nothing follows from the row without a limit but itself, as what is called deeper and deeper goes on for ever.
        for program in [TURN, DOWN, *SMALL]:
            self.assertEqual(next_row(program, row(program, None)), row(program, None))

    def test_a_row_is_not_changed(self):
        held = row(UNORDERED, 1)
        is_row(UNORDERED, held)
        next_row(UNORDERED, held)
        self.assertEqual(held, row(UNORDERED, 1))

    def test_wrong_programs(self):
        for value in NO_PROGRAMS:
            for held in (row(TURN, 0), None):
                check_raises(self, InvalidProgram, {}, is_row, value, held)
                check_raises(self, InvalidProgram, {}, next_row, value, held)


class Reached(unittest.TestCase):
    def test_all_situations_at_small_limits(self):
        for program in [TURN, DOWN, UNORDERED, *SMALL[:30]]:
            for limit in (0, 1, 2, 3):
                for name, mode in all_pairs(program):
                    graph = all_situations(entered(program, name, mode), limit)
                    expected = sorted({(spot[1], held) for held, sites, spot in graph
                                       if sites == () and isinstance(spot, tuple)})
                    self.assertEqual(reached(program, limit, name, (mode,)), tuple(expected))

    def test_several_modes(self):
        for program in SMALL:
            for limit in (0, 2, 10 ** 39, None):
                for name in program.names:
                    every = tuple(range(program.modes))
                    each = [set(reached(program, limit, name, (mode,))) for mode in every]
                    self.assertEqual(reached(program, limit, name, every), tuple(sorted(set().union(*each))))

    def test_without_a_limit(self):
        self.assertEqual(reached(TURN, None, "p", (0, 1)), ((0, 0), (0, 1)))
        self.assertEqual(reached(DOWN, None, "p", (2,)), ((0, 2), (1, 1), (2, 0)))

    def test_great_limits(self):
        for number in (0, 3, 39, 40, 41, 10 ** 30 + 7, LONG):
            self.assertEqual(reached(ROUND_40, number, "p", (0,)), reached(ROUND_40, number % 40 + 40, "p", (0,)))
        # In the first round it can come to less than at the same place of each later one.
        first = Program(1, (0,), Procedure("p", 2, ("call", 0, 1, "q", (0,), None), ("fail", 0, (0,))),
                        Procedure("q", 1, ("leave", 0, (0,)), ("fail", 0, (0,))))
        self.assertEqual(row(first, 0), {("p", 0): ((), (0,), False), ("q", 0): ((0,), (0,), False)})
        self.assertEqual(row(first, 1), row(first, 0))
        self.assertEqual([reached(first, limit, "p", (0,)) for limit in (0, 1, 2, 10 ** 39, None)],
                         [((0, 0),), *[((0, 0), (1, 0))] * 4])

    def test_rows_that_come_round_too_late(self):
        for program in (JUST_401, ROUND_630):
            self.assertIsNone(raised(reached, program, 399, "p", (0,)))
            self.assertIsNone(raised(reached, program, 400, "p", (0,)))
            self.assertIsNone(raised(reached, program, None, "p", (0,)))
            for limit in (401, 402, 10 ** 39):
                check_raises(self, TooMany, {"limit": 400}, reached, program, limit, "p", (0,))
        for limit in (400, 401, 402, 10 ** 39 + 1):
            self.assertEqual(reached(JUST_400, limit, "p", (0,)), reached(JUST_400, (limit - 1) % 400 + 1, "p", (0,)))

    def test_wrong_arguments(self):
        for value in NO_PROGRAMS:
            check_raises(self, InvalidProgram, {}, reached, value, -1, 0, ())
        for value in NO_LIMITS:
            check_raises(self, InvalidLimit, {}, reached, TURN, value, 0, ())
        for value in [*VALUES, "pp", ("p",), ["p"]]:
            for limit in (0, 500, None):
                check_raises(self, UnknownName, {"name": value}, reached, JUST_401, limit, value, ())
        for value in [*NO_TUPLES, (), (1, 0), (0, 0), (2,), (-1,), (True,), (False,), (None,), ("0",), ((0,),), ([],)]:
            check_raises(self, InvalidModes, {}, reached, TURN, 3, "p", value)
        for value in (*NO_INTEGERS, (6,), (1, 0)):
            if value not in ((0, 1), (1,)):
                check_raises(self, InvalidModes, {}, reached, JUST_401, 500, "p", value)


if __name__ == "__main__":
    unittest.main()
