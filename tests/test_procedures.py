"""[0.7], [0.9] and stage 3: procedures and the form of their moves."""

import inspect
import unittest

from deepenough.base.programs import Procedure
from deepenough.errors import InvalidProgram

from helper import LONG, NO_INTEGERS, NO_TUPLES, VALUES, DOWN, check_not_iterable, check_raises, raised

GO = ("go", 0, 1, ((0, 1), (1, 0)))
CALL = ("call", 1, 2, "q", (0, 2), 0)
BARE = ("call", 2, 2, "p", (5,), None)
LEAVE = ("leave", 2, (0, 1, 2, 3, 4, 5))
FAIL = ("fail", 0, (3,))
WHOLE = Procedure("p", 3, GO, CALL, BARE, LEAVE, FAIL)


def replaced(move, part, value):
    return (*move[:part], value, *move[part + 1:])


class Whole(unittest.TestCase):
    def test_what_it_tells(self):
        self.assertEqual((WHOLE.called, WHOLE.points, WHOLE.moves), ("p", 3, (GO, CALL, BARE, LEAVE, FAIL)))
        self.assertEqual(len(WHOLE), 5)
        self.assertEqual(str(WHOLE), "procedure p, 3 points, 5 moves")
        self.assertEqual(str(Procedure("abcdefgh", 1)), "procedure abcdefgh, 1 points, 0 moves")
        self.assertEqual(str(Procedure("p", 1, ("leave", 0, (0,)))), "procedure p, 1 points, 1 moves")
        self.assertEqual(str(Procedure("p", 2, *[("leave", 0, (0,))] * 4)), "procedure p, 2 points, 4 moves")

    def test_of(self):
        self.assertEqual(Procedure.of("p", 3, (GO, CALL, BARE, LEAVE, FAIL)), WHOLE)
        self.assertEqual(Procedure.of("p", 3, ()), Procedure("p", 3))
        self.assertIs(type(Procedure.of("p", 3, ())), Procedure)

    def test_edges(self):
        for called in ("a", "z", "abcdefgh", "go", "call", "leave", "fail", "in", "by", "caught", "modes"):
            self.assertEqual(Procedure(called, 1).called, called)
        for points in (1, 8):
            last = points - 1
            moves = (("go", last, last, ((5, 5),)), ("call", last, last, "abcdefgh", (5,), last), ("leave", last, (5,)))
            self.assertEqual(Procedure.of("p", points, moves).moves, moves)
        pairs = tuple((old, new) for old in range(6) for new in range(6))
        self.assertEqual(Procedure("p", 1, ("go", 0, 0, pairs)).moves[0][3], pairs)
        self.assertEqual(len(Procedure.of("p", 3, (GO,) * 16)), 16)
        self.assertEqual(Procedure("p", 3), Procedure.of("p", 3, ()))

    def test_equal_moves_are_different_moves(self):
        twice = Procedure("p", 3, GO, GO)
        self.assertEqual((len(twice), twice.moves), (2, (GO, GO)))
        self.assertNotEqual(twice, Procedure("p", 3, GO))

    def test_equal(self):
        self.assertEqual(WHOLE, Procedure("p", 3, GO, CALL, BARE, LEAVE, FAIL))
        self.assertIs(WHOLE != Procedure("p", 3, GO, CALL, BARE, LEAVE, FAIL), False)
        for other in (Procedure("q", 3, GO, CALL, BARE, LEAVE, FAIL), Procedure("p", 4, GO, CALL, BARE, LEAVE, FAIL),
                      Procedure("p", 3, CALL, GO, BARE, LEAVE, FAIL), Procedure("p", 3, GO, CALL, BARE, LEAVE)):
            self.assertIs(WHOLE == other, False)
            self.assertIs(WHOLE != other, True)
        for value in [*VALUES, WHOLE.moves, ("p", 3, WHOLE.moves), "p"]:
            self.assertIs(WHOLE == value, False)
            self.assertIs(value == WHOLE, False)


class Interface(unittest.TestCase):
    def test_all_is_defined_in_the_class_itself(self):
        for name in "called points moves of __init__ __eq__ __len__ __str__".split():
            self.assertIn(name, vars(Procedure))
        self.assertEqual(Procedure.__module__, "deepenough.base.programs")
        self.assertEqual(list(inspect.signature(Procedure).parameters), ["called", "points", "moves"])
        self.assertEqual(list(inspect.signature(Procedure.of).parameters), ["called", "points", "moves"])

    def test_it_never_changes(self):
        for name in ("called", "points", "moves"):
            self.assertIs(type(raised(setattr, WHOLE, name, getattr(DOWN["p"], name))), AttributeError)
        check_not_iterable(self, WHOLE, Procedure("p", 1))


class Wrong(unittest.TestCase):
    def check(self, called, points, *moves):
        check_raises(self, InvalidProgram, {}, Procedure, called, points, *moves)
        check_raises(self, InvalidProgram, {}, Procedure.of, called, points, moves)

    def test_names(self):
        for value in [value for value in VALUES if value not in ("a", "main")]:
            self.check(value, 3, LEAVE)
            self.check("p", 3, replaced(CALL, 3, value))
        for value in ("abcdefghi", "", "P", "p1", "p q", " p", ("p",)):
            self.check(value, 3, LEAVE)
            self.check("p", 3, replaced(CALL, 3, value))

    def test_points(self):
        for value in [*NO_INTEGERS, 0, 9, 10, LONG, -1, -LONG]:
            self.check("p", value)

    def test_points_of_moves(self):
        for value in [*NO_INTEGERS, 3, 8, LONG, -1, -LONG]:
            for move, parts in ((GO, (1, 2)), (CALL, (1, 2)), (LEAVE, (1,)), (FAIL, (1,))):
                for part in parts:
                    self.check("p", 3, replaced(move, part, value))
            if value is not None:
                self.check("p", 3, replaced(CALL, 5, value))

    def test_mode_sets(self):
        wrong = [(), (1, 0), (1, 1), (0, 2, 1), (6,), (0, 6), (-1,), (True,), (False, 1), (None,), ("0",), ((0,),),
                 (LONG,), (0, None), ([],), ({},), (0, 1, 1)]
        for value in [*NO_TUPLES, *wrong]:
            self.check("p", 3, replaced(CALL, 4, value))
            self.check("p", 3, replaced(LEAVE, 2, value))
            self.check("p", 3, replaced(FAIL, 2, value))

    def test_pairs(self):
        wrong = [(), (0, 1), ((0, 1), (0, 1)), ((0, 1), (0, 0)), ((1, 0), (0, 1)), ((0,),), ((0, 1, 2),), ((),),
                 ((6, 0),), ((0, 6),), ((-1, 0),), ((0, -1),), ((True, 0),), ((0, False),), ([0, 1],), ("01",),
                 ((None, 0),), ((0, (1,)),), ({0: 1},), ((0, 1), None), ((0, LONG),), ((0, [1]),)]
        for value in [*NO_TUPLES, *wrong]:
            self.check("p", 3, replaced(GO, 3, value))

    def test_moves(self):
        for value in [*VALUES, (), ("go",), ("leave",), ("skip", 0, (0,)), ("Leave", 0, (0,)), (["leave"], 0, (0,)),
                      (None, 0, (0,)), (0, 0, (0,)), ("leave ", 0, (0,)), ("", 0, (0,))]:
            self.check("p", 3, value)
            self.check("p", 3, GO, value)

    def test_moves_with_too_few_or_too_many_parts(self):
        for move in (GO, CALL, BARE, LEAVE, FAIL):
            for many in range(len(move)):
                self.check("p", 3, move[:many])
                self.check("p", 3, (*move[:many], *move[many + 1:]))
            for more in (None, 0, (0,)):
                self.check("p", 3, (*move, more))
            self.check("p", 3, list(move))
        self.check("p", 3, ("go", 0, (0,)))
        self.check("p", 3, ("leave", 0, 1, ((0, 1),)))

    def test_seventeen_moves(self):
        self.check("p", 3, *[LEAVE] * 17)

    def test_of_asks_for_a_tuple(self):
        for value in NO_TUPLES:
            check_raises(self, InvalidProgram, {}, Procedure.of, "p", 3, value)
        for value in ([LEAVE], [], {LEAVE: 1}, "", {}):
            check_raises(self, InvalidProgram, {}, Procedure.of, "p", 3, value)

    def test_all_at_once(self):
        self.check(None, None, None)
        self.check([], [], [])

    def test_arguments_are_not_changed(self):
        held = ["leave", 0, [0]]
        self.check("p", 1, held)
        self.assertEqual(held, ["leave", 0, [0]])


if __name__ == "__main__":
    unittest.main()
