"""[0.7] to [0.10] and stage 3: programs."""

import inspect
import unittest

from deepenough.base.programs import Procedure, Program
from deepenough.errors import InvalidOperation, InvalidProgram, UnknownName, UnknownSite

from helper import (DOWN, LONG, MOVES, NO_INTEGERS, NO_TUPLES, TURN, VALUES, check_examples, check_not_iterable,
                    check_raises, raised)

EXAMPLES = """
>>> [TURN.calls, TURN.catches, DOWN.catches, DOWN.move(("p", 1)), str(DOWN), len(DOWN["p"]), TURN.without_catches(TURN.calls).catches]
[(('p', 0),), (('p', 0),), (), ('call', 1, 2, 'p', (0, 1), None), 'program of 1 procedures, 3 modes', 4, ()]
"""

LEAVE = ("leave", 0, (0,))
MAIN = Procedure("main", 3, ("call", 0, 1, "q", (0, 1), 2), ("leave", 1, (0,)), ("call", 2, 1, "p", (1,), None))
P = Procedure("p", 2, ("go", 0, 1, ((0, 1),)), ("call", 1, 1, "q", (1,), 0), ("call", 1, 1, "q", (1,), 0),
              ("leave", 1, (1,)))
Q = Procedure("q", 1, ("leave", 0, (0, 1)), ("call", 0, 0, "main", (0,), None))
THREE = Program(2, (0, 1), MAIN, P, Q)
ALONE = Procedure("r", 1, LEAVE)

WRONG_MODE_SETS = [*NO_TUPLES, (), (1, 0), (0, 0), (2,), (0, 2), (-1,), (True,), (False,), (None,), ("0",), ((0,),),
                   (LONG,), ([],), ({},)]
WRONG_SITES = [*VALUES, ("main", 1), ("main", 3), ("main", -1), ("main", LONG), ("main", None), ("main", "0"),
               ("main", False), ("p", True), ("main", (0,)), ("none", 0), ("main",), ("main", 0, 0), ["main", 0],
               ("main", [0]), (["main"], 0), ("r", 0), (0, "main"), (("main", 0),), (None, 0), ({}, {})]


def told(program):
    return (program.modes, program.starts, program.procedures, program.names, program.main, program.calls,
            program.catches, len(program), str(program))


BEFORE = told(THREE)


class Examples(unittest.TestCase):
    def test_examples_of_the_document(self):
        check_examples(self, EXAMPLES, {"TURN": TURN, "DOWN": DOWN})

    def test_programs_of_the_document(self):
        self.assertEqual((DOWN["p"].moves, DOWN.starts, DOWN.modes), (MOVES, (2,), 3))


class Whole(unittest.TestCase):
    def test_what_it_tells(self):
        self.assertEqual(told(THREE), (2, (0, 1), (MAIN, P, Q), ("main", "p", "q"), "main",
                                       (("main", 0), ("main", 2), ("p", 1), ("p", 2), ("q", 1)),
                                       (("main", 0), ("p", 1), ("p", 2)), 3, "program of 3 procedures, 2 modes"))
        self.assertEqual(str(Program(1, (0,), ALONE)), "program of 1 procedures, 1 modes")
        self.assertEqual(Program(1, (0,), ALONE).calls, ())

    def test_of(self):
        self.assertEqual(Program.of(2, (0, 1), (MAIN, P, Q)), THREE)
        self.assertIs(type(Program.of(2, (0, 1), (MAIN, P, Q))), Program)

    def test_edges(self):
        names = ("a", "b", "c", "d", "e", "abcdefgh")
        for modes in (1, 6):
            last = modes - 1
            for many in (1, 6):
                procedures = [Procedure(name, 1, ("leave", 0, (last,)), ("call", 0, 0, names[many - 1], (0,), 0))
                              for name in names[:many]]
                program = Program(modes, (last,), *procedures)
                self.assertEqual((len(program), program.modes, program.starts), (many, modes, (last,)))
        self.assertEqual(Program(6, (0, 1, 2, 3, 4, 5), ALONE).starts, (0, 1, 2, 3, 4, 5))

    def test_the_order_of_the_procedures(self):
        other = Program(2, (0, 1), Q, MAIN, P)
        self.assertEqual((other.names, other.main), (("q", "main", "p"), "q"))
        self.assertEqual(other.calls, (("q", 1), ("main", 0), ("main", 2), ("p", 1), ("p", 2)))
        self.assertNotEqual(other, THREE)

    def test_a_procedure_by_its_name(self):
        for procedure in (MAIN, P, Q):
            self.assertEqual(THREE[procedure.called], procedure)
            self.assertIn(procedure.called, THREE)
        for value in [*VALUES, "r", ("p",), ["p"], MAIN]:
            if value != "main":
                check_raises(self, UnknownName, {"name": value}, lambda name: THREE[name], value)
                self.assertIs(value in THREE, False)
                self.assertIs(value not in THREE, True)

    def test_move(self):
        for site in THREE.calls:
            self.assertEqual(THREE.move(site), THREE[site[0]].moves[site[1]])
        self.assertEqual(THREE.move(("main", 2)), ("call", 2, 1, "p", (1,), None))
        for value in WRONG_SITES:
            check_raises(self, UnknownSite, {"site": value}, THREE.move, value)

    def test_equal(self):
        self.assertEqual(THREE, Program(2, (0, 1), MAIN, P, Q))
        self.assertIs(THREE != Program(2, (0, 1), MAIN, P, Q), False)
        for other in (Program(3, (0, 1), MAIN, P, Q), Program(2, (0,), MAIN, P, Q), Program(2, (0, 1), MAIN, Q, P),
                      THREE.with_caught(("q", 1), 0), THREE.with_procedure(ALONE)):
            self.assertIs(THREE == other, False)
            self.assertIs(THREE != other, True)
        for value in [*VALUES, MAIN, (2, (0, 1), (MAIN, P, Q)), str(THREE)]:
            self.assertIs(THREE == value, False)
            self.assertIs(value == THREE, False)


class Interface(unittest.TestCase):
    def test_all_is_defined_in_the_class_itself(self):
        names = ("modes starts procedures names main calls catches move with_caught without_catches with_starts "
                 "with_procedure without renamed of __init__ __getitem__ __contains__ __len__ __eq__ __str__")
        for name in names.split():
            self.assertIn(name, vars(Program))
        self.assertEqual(Program.__module__, "deepenough.base.programs")
        self.assertEqual(list(inspect.signature(Program).parameters), ["modes", "starts", "procedures"])
        self.assertEqual(list(inspect.signature(Program.of).parameters), ["modes", "starts", "procedures"])

    def test_it_never_changes(self):
        for name in "modes starts procedures names main calls catches".split():
            self.assertIs(type(raised(setattr, THREE, name, getattr(DOWN, name))), AttributeError)

    def test_it_cannot_be_iterated_over(self):
        check_not_iterable(self, THREE, TURN, DOWN)


class Wrong(unittest.TestCase):
    def check(self, modes, starts, *procedures):
        check_raises(self, InvalidProgram, {}, Program, modes, starts, *procedures)
        check_raises(self, InvalidProgram, {}, Program.of, modes, starts, procedures)

    def test_modes(self):
        for value in [*NO_INTEGERS, 0, 7, -1, LONG, 1]:
            self.check(value, (0,), MAIN, P, Q)
        self.check(7, (0,), ALONE)

    def test_starts(self):
        for value in WRONG_MODE_SETS:
            self.check(2, value, MAIN, P, Q)
        self.check(6, (6,), ALONE)

    def test_procedures(self):
        self.check(2, (0,))
        for value in [value for value in VALUES if not isinstance(value, Procedure)]:
            self.check(2, (0,), value)
            self.check(2, (0,), ALONE, value)
        self.check(2, (0,), THREE)
        self.check(2, (0,), (MAIN, P, Q))

    def test_seven_procedures(self):
        self.check(2, (0,), *[Procedure(name, 1) for name in "abcdefg"])

    def test_two_of_one_name(self):
        self.check(2, (0,), ALONE, ALONE)
        self.check(2, (0,), ALONE, Procedure("r", 2))

    def test_modes_of_moves(self):
        for move in (("go", 0, 0, ((0, 2),)), ("go", 0, 0, ((0, 0), (2, 0))), ("call", 0, 0, "r", (0, 2), None),
                     ("leave", 0, (2,)), ("fail", 0, (1, 2))):
            self.check(2, (0,), Procedure("r", 1, move))
            self.check(2, (0,), ALONE, Procedure("s", 1, move, LEAVE))
            self.assertEqual(len(Program(3, (0,), Procedure("r", 1, move))), 1)

    def test_names_of_calls(self):
        self.check(2, (0,), MAIN, P)
        self.check(2, (0,), Procedure("r", 1, ("call", 0, 0, "s", (0,), None)))

    def test_of_asks_for_a_tuple(self):
        for value in [*NO_TUPLES, [ALONE], ALONE, {"r": ALONE}]:
            check_raises(self, InvalidProgram, {}, Program.of, 2, (0,), value)

    def test_all_at_once(self):
        self.check(None, None, None)
        self.check(0, (), ())


class Changes(unittest.TestCase):
    def tearDown(self):
        self.assertEqual(told(THREE), BEFORE)

    def test_with_caught(self):
        other = THREE.with_caught(("main", 2), 0)
        self.assertEqual(other.move(("main", 2)), ("call", 2, 1, "p", (1,), 0))
        self.assertEqual(other.catches, (("main", 0), ("main", 2), ("p", 1), ("p", 2)))
        self.assertEqual((other.names, other["p"], other["q"]), (THREE.names, P, Q))
        self.assertEqual(other.with_caught(("main", 2), None), THREE)
        self.assertEqual(THREE.with_caught(("main", 0), None).catches, (("p", 1), ("p", 2)))
        self.assertEqual(THREE.with_caught(("p", 2), 1).move(("p", 1)), P.moves[1])

    def test_the_point_that_is_there_already(self):
        self.assertEqual(THREE.with_caught(("main", 0), 2), THREE)
        self.assertEqual(THREE.with_caught(("main", 0), 1).with_caught(("main", 0), 1).move(("main", 0))[5], 1)
        self.assertEqual(THREE.with_caught(("main", 2), None), THREE)

    def test_with_caught_of_wrong_sites(self):
        for value in WRONG_SITES:
            for caught in (0, None, 9, "0"):
                check_raises(self, UnknownSite, {"site": value}, THREE.with_caught, value, caught)

    def test_with_caught_of_wrong_points(self):
        for value in [*[value for value in NO_INTEGERS if value is not None], 3, 8, -1, LONG]:
            check_raises(self, InvalidOperation, {}, THREE.with_caught, ("main", 0), value)
        check_raises(self, InvalidOperation, {}, THREE.with_caught, ("p", 1), 2)
        check_raises(self, InvalidOperation, {}, THREE.with_caught, ("q", 1), 1)

    def test_without_catches(self):
        self.assertEqual(THREE.without_catches(()), THREE)
        self.assertEqual(THREE.without_catches((("q", 1), ("main", 2))), THREE)
        self.assertEqual(THREE.without_catches(THREE.calls).catches, ())
        self.assertEqual(THREE.without_catches((("p", 2), ("main", 0), ("p", 2))).catches, (("p", 1),))
        self.assertEqual(THREE.without_catches((("p", 1),)), THREE.with_caught(("p", 1), None))

    def test_without_catches_of_wrong_sites(self):
        for value in [*NO_TUPLES, ["main", 0], [("main", 0)], {("main", 0): 1}]:
            check_raises(self, UnknownSite, {"site": value}, THREE.without_catches, value)
        for value in WRONG_SITES:
            check_raises(self, UnknownSite, {"site": value}, THREE.without_catches, (("p", 1), value, ("p", 9)))
        check_raises(self, UnknownSite, {"site": "main"}, THREE.without_catches, ("main", 0))

    def test_with_starts(self):
        self.assertEqual(THREE.with_starts((1,)), Program(2, (1,), MAIN, P, Q))
        self.assertEqual(THREE.with_starts((1,)).with_starts((0,)).starts, (0,))
        for value in WRONG_MODE_SETS:
            check_raises(self, InvalidOperation, {}, THREE.with_starts, value)

    def test_with_procedure(self):
        self.assertEqual(THREE.with_procedure(ALONE), Program(2, (0, 1), MAIN, P, Q, ALONE))
        other = Procedure("p", 1, LEAVE)
        self.assertEqual(THREE.with_procedure(other), Program(2, (0, 1), MAIN, other, Q))
        other = Procedure("main", 1, LEAVE)
        self.assertEqual(THREE.with_procedure(other).main, "main")
        self.assertEqual(THREE.with_procedure(P), THREE)

    def test_with_wrong_procedures(self):
        for value in [value for value in VALUES if not isinstance(value, Procedure)]:
            check_raises(self, InvalidOperation, {}, THREE.with_procedure, value)
        for move in (("call", 0, 0, "none", (0,), None), ("leave", 0, (2,))):
            check_raises(self, InvalidOperation, {}, THREE.with_procedure, Procedure("p", 1, move))
        six = Program(1, (0,), *[Procedure(name, 1) for name in "abcdef"])
        check_raises(self, InvalidOperation, {}, six.with_procedure, Procedure("g", 1))
        self.assertEqual(len(six.with_procedure(Procedure("f", 2))), 6)

    def test_without(self):
        four = THREE.with_procedure(ALONE)
        self.assertEqual(four.without("r"), THREE)
        other = Program(2, (1,), ALONE, MAIN, P, Q).without("r")
        self.assertEqual((other.main, other.names, other.starts), ("main", ("main", "p", "q"), (1,)))

    def test_without_wrong_names(self):
        for value in [value for value in [*VALUES, "r", ("p",)] if value != "main"]:
            check_raises(self, UnknownName, {"name": value}, THREE.without, value)
        for name in THREE.names:
            check_raises(self, InvalidOperation, {}, THREE.without, name)
        check_raises(self, InvalidOperation, {}, Program(1, (0,), ALONE).without, "r")
        check_raises(self, InvalidOperation, {}, TURN.without, "p")

    def test_renamed(self):
        self.assertEqual(THREE.renamed({}), THREE)
        self.assertEqual(THREE.renamed({"p": "p"}), THREE)
        other = THREE.renamed({"q": "abcdefgh"})
        self.assertEqual(other.names, ("main", "p", "abcdefgh"))
        self.assertEqual(other.move(("main", 0)), ("call", 0, 1, "abcdefgh", (0, 1), 2))
        self.assertEqual(other.move(("abcdefgh", 1)), ("call", 0, 0, "main", (0,), None))
        self.assertEqual(other.renamed({"abcdefgh": "q"}), THREE)

    def test_names_exchanged(self):
        other = THREE.renamed({"p": "main", "main": "p"})
        self.assertEqual((other.names, other.main), (("p", "main", "q"), "p"))
        self.assertEqual([other.move(site)[3] for site in other.calls], ["q", "main", "q", "q", "p"])
        self.assertEqual((other["main"].points, other["p"].points), (2, 3))
        self.assertEqual(other.renamed({"main": "p", "p": "main"}), THREE)
        turned = THREE.renamed({"p": "q", "q": "main", "main": "p"})
        self.assertEqual(turned.names, ("p", "q", "main"))

    def test_renamed_by_wrong_values(self):
        for value in [value for value in VALUES if not isinstance(value, dict)]:
            check_raises(self, InvalidOperation, {}, THREE.renamed, value)
        wrong = [{"r": "s"}, {"p": "q"}, {"p": "main"}, {"p": "r", "q": "r"}, {0: "r"}, {("p",): "r"}, {None: "r"},
                 {"p": "r", "none": "s"}, {"p": "q", "q": "main", "main": "q"}]
        for value in [*wrong, *[{"p": value} for value in VALUES if value != "a"]]:
            check_raises(self, InvalidOperation, {}, THREE.renamed, value)

    def test_a_dict_is_not_changed(self):
        names = {"p": "r"}
        THREE.renamed(names)
        self.assertEqual(names, {"p": "r"})


if __name__ == "__main__":
    unittest.main()
