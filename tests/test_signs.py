"""[0.18], [0.19], [0.22] and stage 10: signs."""

import unittest

from deepenough.ask.signs import is_sign, shows, sign_limits, truths
from deepenough.base.limits import Limits
from deepenough.base.programs import Procedure, Program
from deepenough.errors import InvalidLimit, InvalidProgram, InvalidSign, TooMany
from deepenough.give.ends import outcome, outcomes
from deepenough.know.rounds import Rounds
from deepenough.know.rows import reached

from helper import (COPY_NAMES, DOWN, JUST_400, JUST_401, LATE_35, LONG, NO_LIMITS, NO_PROGRAMS, ROUND_40, ROUND_630,
                    TURN, VALUES, all_pairs, all_signs, check_examples, check_raises, copied, entered, members,
                    model_signs, raised, some_copied, some_programs)

EXAMPLES = """
>>> [truths(TURN, 0, ("place", "p", 2, 1)), truths(TURN, 1, ("place", "p", 2, 1)), truths(TURN, None, ("place", "p", 2, 1)), shows(TURN, 10 ** 30, ("over", ("p", 0)))]
[(('p', 0),), (('p', 0), ('p', 1)), (), True]
>>> [str(sign_limits(TURN, sign)) for sign in (("place", "p", 2, 0), ("enter", ("p", 0)), ("catch", ("p", 0)), ("full",))]
['1+1k', '1+1k', '0+1k', '0+1k']
"""

NAMES = {"TURN": TURN, "DOWN": DOWN, "truths": truths, "shows": shows, "sign_limits": sign_limits}
SMALL = some_programs(71, 60, points=4, moves=7)
FULL = ("full",)

# Main calls q and catches what falls through q and r; the call in q does not catch.
FALLS = Program(2, (0, 1), Procedure("main", 3, ("call", 0, 1, "q", (0, 1), 2), ("leave", 1, (0, 1)), ("fail", 2, (1,))),
                Procedure("q", 2, ("call", 0, 1, "r", (0,), None), ("leave", 1, (0, 1)), ("leave", 0, (1,))),
                Procedure("r", 2, ("go", 0, 1, ((0, 1),)), ("fail", 1, (1,)), ("leave", 0, (0,))))


class Examples(unittest.TestCase):
    def test_examples_of_the_document(self):
        check_examples(self, EXAMPLES, NAMES)

    def test_each_is_defined_in_its_file(self):
        for call in (is_sign, truths, shows, sign_limits):
            self.assertEqual(call.__module__, "deepenough.ask.signs")


class Forms(unittest.TestCase):
    def test_signs(self):
        for program in [TURN, DOWN, FALLS, *SMALL]:
            for sign in all_signs(program):
                self.assertIs(is_sign(program, sign), True)

    def test_other_values(self):
        call, bare = ("main", 0), ("q", 0)
        wrong = [("place",), ("place", "main"), ("place", "main", 0), ("place", "main", 0, 0, 0), ("place", "main", 3, 0),
                 ("place", "main", -1, 0), ("place", "main", 0, 2), ("place", "main", 0, -1), ("place", "none", 0, 0),
                 ("place", "main", True, 0), ("place", "main", 0, False), ("place", ["main"], 0, 0), ("place", 0, 0, 0),
                 ("place", "main", None, 0), ("place", "main", 0, None), ("place", ("main", 0), 0, 0),
                 ("place", "main", (0,), 0), ("place", "main", 0, "0"), ("place", "q", 2, 0), ["place", "main", 0, 0],
                 ("enter",), ("enter", call, call), ("enter", "main", 0), ("enter", ("main", 1)), ("enter", ("main", 3)),
                 ("enter", ("none", 0)), ("enter", ("main", False)), ("enter", ("main", None)), ("enter", ["main", 0]),
                 ("enter", ("main",)), ("enter", ("main", 0, 0)), ("enter", ("main", [0])), ("enter", (["main"], 0)),
                 ("enter", ("main", LONG)), ("enter", ("main", -1)), ("enter", None), ("over", ("main", 1)), ("over",),
                 ("over", "main"), ("over", call, 0), ["over", call], ("catch", bare), ("catch", ("main", 1)),
                 ("catch",), ("catch", call, 0), ("catch", "main"), ("catch", ("main", False)), ["catch", call],
                 ("full", 0), ("full", None), "full", ["full"], ("Full",), (FULL,), (None,), (0,), ((),), (["full"],),
                 ("go", call), ("leave", call), ("", call), (None, call), (call,), call, ("calls", call)]
        for value in [*VALUES, *wrong]:
            self.assertIs(is_sign(FALLS, value), False, value)
            for limit in (0, 500, None):
                check_raises(self, InvalidSign, {}, truths, FALLS, limit, value)
                check_raises(self, InvalidSign, {}, shows, FALLS, limit, value)
            check_raises(self, InvalidSign, {}, sign_limits, FALLS, value)

    def test_a_catch_that_is_taken_away(self):
        sign = ("catch", ("p", 0))
        self.assertIs(is_sign(TURN, sign), True)
        self.assertIs(is_sign(TURN.without_catches(TURN.calls), sign), False)
        self.assertIs(is_sign(DOWN, ("catch", ("p", 1))), False)
        self.assertIs(is_sign(DOWN.with_caught(("p", 1), 0), ("catch", ("p", 1))), True)


class Shown(unittest.TestCase):
    def test_all_situations_at_small_limits(self):
        for program in [TURN, DOWN, FALLS, *SMALL]:
            for limit in (0, 1, 2, 3):
                shown = model_signs(program, limit)
                for sign in all_signs(program):
                    self.assertIs(shows(program, limit, sign), sign in shown)

    def test_truths_of_all_procedures_and_modes(self):
        for program in [TURN, DOWN, FALLS, *SMALL[:30]]:
            for limit in (0, 1, 2, 3):
                shown = {pair: model_signs(entered(program, *pair), limit) for pair in all_pairs(program)}
                for sign in all_signs(program):
                    expected = [pair for pair in all_pairs(program) if sign in shown[pair]]
                    self.assertEqual(truths(program, limit, sign), tuple(expected))

    def test_truths_and_what_is_shown(self):
        for program in [ROUND_40, *SMALL]:
            for sign in all_signs(program)[:40]:
                for limit in (0, 5, 40, 10 ** 39, None):
                    held = truths(program, limit, sign)
                    self.assertEqual(held, tuple(sorted(held)))
                    begun = [(program.main, start) for start in program.starts]
                    self.assertIs(shows(program, limit, sign), any(pair in held for pair in begun))

    def test_copies_of_the_procedures_show_the_same_without_a_limit(self):
        for program, limit in some_copied(72, 60):
            copies = copied(program, limit)
            for sign in all_signs(program):
                if sign[0] == "place":
                    _, name, point, mode = sign
                    like = [("place", COPY_NAMES[name][rest], point, mode) for rest in range(limit + 1)]
                elif sign[0] == "full":
                    like = [("place", names[0], 0, mode) for name, names in COPY_NAMES.items() if name in program
                            for mode in range(program.modes)]
                else:
                    name, index = sign[1]
                    word = "catch" if sign[0] == "catch" else "enter"
                    rests = {"over": [0], "enter": range(1, limit + 1), "catch": range(limit + 1)}[sign[0]]
                    like = [(word, (COPY_NAMES[name][rest], index)) for rest in rests]
                self.assertIs(shows(program, limit, sign), any(shows(copies, None, one) for one in like))

    def test_falls(self):
        catch, enter, over = [(word, ("main", 0)) for word in ("catch", "enter", "over")]
        self.assertEqual([str(sign_limits(FALLS, sign)) for sign in (catch, enter, over)], ["0+1k", "1+1k", "0"])
        inner = [(word, ("q", 0)) for word in ("enter", "over")]
        self.assertEqual([str(sign_limits(FALLS, sign)) for sign in inner], ["2+1k", "1"])
        self.assertEqual(truths(FALLS, 0, ("over", ("q", 0))), (("q", 0),))
        self.assertEqual(truths(FALLS, 2, ("place", "r", 1, 1)), (("main", 0), ("q", 0), ("r", 0)))
        self.assertEqual(truths(FALLS, 1, ("place", "r", 1, 1)), (("q", 0), ("r", 0)))
        # In the mode 1 q is only left.
        self.assertEqual(truths(FALLS, 1, catch), (("main", 0),))
        self.assertEqual(truths(FALLS, 0, catch), (("main", 0), ("main", 1)))
        self.assertEqual(truths(FALLS, None, catch), (("main", 0),))

    def test_full(self):
        self.assertEqual(truths(FALLS, 0, FULL), tuple(all_pairs(FALLS)))
        self.assertEqual(truths(FALLS, 1, FULL), (("main", 0), ("main", 1), ("q", 0)))
        self.assertEqual(truths(FALLS, 2, FULL), (("main", 0),))
        self.assertEqual([str(sign_limits(program, FULL)) for program in (FALLS, DOWN, TURN)],
                         ["0, 1, 2", "0, 1, 2", "0+1k"])
        for program in [TURN, DOWN, FALLS, *SMALL]:
            self.assertIs(shows(program, 0, FULL), True)

    def test_without_a_limit(self):
        for program in [TURN, DOWN, FALLS, *SMALL]:
            for sign in [FULL, *[("over", site) for site in program.calls]]:
                self.assertEqual(truths(program, None, sign), ())
                self.assertIs(shows(program, None, sign), False)
        self.assertEqual(truths(TURN, None, ("enter", ("p", 0))), (("p", 0), ("p", 1)))
        self.assertEqual(truths(TURN, None, ("catch", ("p", 0))), ())
        self.assertEqual(truths(TURN, None, ("place", "p", 0, 1)), (("p", 1),))
        self.assertEqual(truths(DOWN, None, ("place", "p", 2, 0)), (("p", 1), ("p", 2)))

    def test_what_is_shown_without_a_limit_is_shown_at_all_great_limits(self):
        for program in [TURN, DOWN, FALLS, ROUND_40, *SMALL]:
            for sign in all_signs(program)[:60]:
                if shows(program, None, sign):
                    self.assertTrue((~sign_limits(program, sign)).is_finite)

    def test_places_in_the_procedure_itself_are_reached(self):
        for program in SMALL:
            for limit in (0, 2, 10 ** 39, None):
                for name, mode in all_pairs(program):
                    for point, held in reached(program, limit, name, (mode,)):
                        self.assertIn((name, mode), truths(program, limit, ("place", name, point, held)))

    def test_a_place_can_be_shown_and_not_at_the_next_limit(self):
        # Each other limit TURN leaves in the mode 0.
        place = Program(2, (0,), Procedure("main", 2, ("call", 0, 1, "p", (0,), None)), TURN["p"])
        self.assertEqual(str(sign_limits(place, ("place", "main", 1, 0))), "2+2k")
        self.assertEqual(str(sign_limits(place, ("place", "main", 1, 1))), "1+2k")

    def test_an_idle_catch_can_be_taken_away(self):
        idle = 0
        for program in SMALL:
            for site in program.catches:
                if not sign_limits(program, ("catch", site)) and not shows(program, None, ("catch", site)):
                    idle += 1
                    self.assertEqual(outcomes(program.with_caught(site, None)), outcomes(program))
                    self.assertEqual(outcome(program.with_caught(site, None), None), outcome(program, None))
        self.assertGreater(idle, 5)

    def test_other_names_change_nothing(self):
        for program in SMALL[:30]:
            names = {name: new for name, new in zip(program.names, ("x", "w", "v"))}
            other = program.renamed(names)
            for sign in all_signs(program):
                if sign[0] == "place":
                    like = ("place", names[sign[1]], *sign[2:])
                else:
                    like = sign if sign == FULL else (sign[0], (names[sign[1][0]], sign[1][1]))
                self.assertEqual(sign_limits(other, like), sign_limits(program, sign))


class HowTheyComeRound(unittest.TestCase):
    def test_sets_of_limits(self):
        for program in [TURN, DOWN, FALLS, ROUND_40, *SMALL[:20]]:
            for sign in all_signs(program)[:40]:
                found = sign_limits(program, sign)
                self.assertIsInstance(found, Limits)
                self.assertEqual(members(found), [limit for limit in range(130) if shows(program, limit, sign)])

    def test_great_limits(self):
        for sign in (FULL, ("place", "p", 2, 0), ("enter", ("q", 1)), ("over", ("q", 1)), ("catch", ("p", 1))):
            limits = sign_limits(ROUND_40, sign)
            for number in (41, 399, 400, 10 ** 30 + 7, 10 ** 30 + 8, LONG):
                self.assertIs(shows(ROUND_40, number, sign), number in limits)
                self.assertEqual(truths(ROUND_40, number, sign), truths(ROUND_40, number % 40 + 80, sign))

    def test_rows_that_come_round_ahead_of_the_truths(self):
        # All rows are equal, but the place is inside of the fourth call alone.
        chain = Program(1, (0,), *[Procedure(name, 1, ("call", 0, 0, other, (0,), 0))
                                   for name, other in ("ab", "bc", "cd", "de")], Procedure("e", 1, ("go", 0, 0, ((0, 0),))))
        self.assertEqual((Rounds(chain).first, Rounds(chain).period), (0, 1))
        self.assertEqual(str(sign_limits(chain, ("place", "e", 0, 0))), "4+1k")
        self.assertEqual([str(sign_limits(chain, ("enter", (name, 0)))) for name in "abcd"],
                         ["1+1k", "2+1k", "3+1k", "4+1k"])
        self.assertEqual([str(sign_limits(chain, ("over", (name, 0)))) for name in "abcd"], ["0", "1", "2", "3"])

    def test_more_than_400_pairs(self):
        for program in (JUST_401, ROUND_630):
            for sign in (FULL, ("place", "p", 0, 0), ("enter", ("p", 1))):
                for limit in (0, 399, None):
                    self.assertIsNone(raised(truths, program, limit, sign))
                    self.assertIsNone(raised(shows, program, limit, sign))
                for limit in (400, 401, 10 ** 39):
                    check_raises(self, TooMany, {"limit": 400}, truths, program, limit, sign)
                    check_raises(self, TooMany, {"limit": 400}, shows, program, limit, sign)
                check_raises(self, TooMany, {"limit": 400}, sign_limits, program, sign)

    def test_400_rows_but_more_pairs(self):
        # 400 rows come round at once; at 0 each procedure is full, and later not all of them: that is one pair more.
        check_raises(self, TooMany, {"limit": 400}, sign_limits, JUST_400, FULL)
        check_raises(self, TooMany, {"limit": 400}, truths, JUST_400, 400, FULL)
        self.assertIsNone(raised(truths, JUST_400, 399, FULL))
        place = ("place", "u", 0, 5)
        self.assertEqual(truths(JUST_400, 10 ** 39, place), truths(JUST_400, 0, place))
        self.assertEqual(sign_limits(JUST_400, place), Limits.none())

    def test_late_truths(self):
        limits = sign_limits(LATE_35, ("place", "u", 0, 5))
        self.assertEqual(str(limits), "35+1k")
        self.assertEqual(str(sign_limits(LATE_35, FULL)), ", ".join(str(number) for number in range(36)))


class Wrong(unittest.TestCase):
    def test_programs(self):
        for value in NO_PROGRAMS:
            check_raises(self, InvalidProgram, {}, is_sign, value, None)
            check_raises(self, InvalidProgram, {}, truths, value, -1, None)
            check_raises(self, InvalidProgram, {}, shows, value, -1, None)
            check_raises(self, InvalidProgram, {}, sign_limits, value, None)

    def test_limits(self):
        for value in NO_LIMITS:
            for sign in (FULL, None):
                check_raises(self, InvalidLimit, {}, truths, JUST_401, value, sign)
                check_raises(self, InvalidLimit, {}, shows, JUST_401, value, sign)

    def test_signs_ahead_of_too_many(self):
        for sign in (("place", "p", 0, 6), ("enter", ("p", 0)), None):
            check_raises(self, InvalidSign, {}, sign_limits, JUST_401, sign)
            check_raises(self, InvalidSign, {}, truths, JUST_401, 400, sign)


if __name__ == "__main__":
    unittest.main()
