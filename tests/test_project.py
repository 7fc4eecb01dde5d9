"""[0.2], [0.4], [17.1] and stage 17: a project with promises."""

import inspect
import random
import unittest

from deepenough.ask.enough import enough
from deepenough.ask.signs import sign_limits
from deepenough.base.limits import Limits
from deepenough.base.programs import Procedure, Program
from deepenough.errors import (InvalidNumber, InvalidOperation, InvalidProgram, NothingToUndo, Refused, TooMany,
                               UnknownName, UnknownSite)
from deepenough.give.ends import endless_at, outcome
from deepenough.house.project import Project

from helper import (DOWN, JUST_400, JUST_401, LONG, NEGATIVE, NO_INTEGERS, NO_PROGRAMS, NO_TUPLES, ROUND_40, ROUND_630,
                    TURN, VALUES, all_situations, all_signs, can_go_on, check_examples, check_not_iterable, check_raises,
                    members, model_signs, raised, ring_program, some_programs)

EXAMPLES = """
>>> project = Project(DOWN)
>>> project.promise("deep", "safe", Limits.since(2))
>>> project.catch(("p", 1), 2)
>>> [project.deeds, project.program.catches, project.undo(), project.redo(many=1), project["deep"][0], str(project)]
[('promise', 'catch'), (('p', 1),), 1, 2, 'safe', 'project with 1 promises']
"""

NAMES = {"DOWN": DOWN, "Project": Project, "Limits": Limits}
SITE = ("p", 1)
EVERY, NONE, EVEN = Limits.every(), Limits.none(), Limits((), 0, 2, (0,))
FULL = ("full",)
SMALL = some_programs(171, 40, points=4, moves=6)
SAFE_SINCE_2 = ("safe", Limits.since(2))
SEVEN = ("promise", "forget", "put", "drop", "catch", "bare", "restart")


def state(project):
    """All that can be seen of a project, without changing it."""
    return (project.program, project.promises, project.deeds, len(project), str(project))


def steps_back(project):
    """How often it can be taken back, and done again what was taken back."""
    twin = project.twin()
    back = twin.undo(many=0)
    again = 0
    while raised(twin.redo) is None:
        again += 1
    return back, again


def check_refused(case, project, error, kept, call, *given):
    """The call raises this error, and nothing has changed behind it."""
    before = (state(project), steps_back(project))
    check_raises(case, error, kept, call, *given)
    case.assertEqual((state(project), steps_back(project)), before)


def idle_main(program):
    return Program.of(program.modes, (0,), (Procedure("x", 1, ("leave", 0, (0,))), *program.procedures))


def some_deeds():
    """A project in which each of the seven calls has been made, and one of them is taken back."""
    project = Project(DOWN)
    project.promise("deep", *SAFE_SINCE_2)
    project.promise("b", "hidden", FULL, Limits.since(3))
    project.catch(SITE, 2)
    project.bare((SITE,))
    project.put(Procedure("q", 1, ("leave", 0, (0,))))
    project.drop("q")
    project.restart((0, 2))
    project.forget("b")
    project.promise("c", "enough", Limits.since(5))
    project.undo()
    return project


class Examples(unittest.TestCase):
    def test_examples_of_the_document(self):
        check_examples(self, EXAMPLES, NAMES)


class Interface(unittest.TestCase):
    def test_all_is_defined_in_the_class_itself(self):
        names = ("program promises deeds promise forget put drop catch bare restart undo redo twin trial during __init__ "
                 "__getitem__ __contains__ __len__ __eq__ __str__")
        for name in names.split():
            self.assertIn(name, vars(Project))
        self.assertEqual(Project.__module__, "deepenough.house.project")
        for name, parameters in (("undo", "self, *, many=1"), ("redo", "self, *, many=1"), ("promise", "self, name, *parts"),
                                 ("catch", "self, site, point"), ("bare", "self, sites"), ("restart", "self, modes"),
                                 ("put", "self, procedure"), ("drop", "self, name"), ("forget", "self, name"),
                                 ("during", "self, call"), ("twin", "self"), ("trial", "self"), ("__init__", "self, program")):
            self.assertEqual(str(inspect.signature(vars(Project)[name])), f"({parameters})")

    def test_wrong_programs(self):
        for value in NO_PROGRAMS:
            check_raises(self, InvalidProgram, {}, Project, value)

    def test_a_new_project(self):
        project = Project(DOWN)
        self.assertEqual(state(project), (DOWN, {}, (), 0, "project with 0 promises"))
        self.assertEqual(steps_back(project), (0, 0))
        check_not_iterable(self, project, some_deeds())
        for name in ("program", "promises", "deeds"):
            self.assertIs(type(raised(setattr, project, name, 1)), AttributeError)

    def test_methods_without_a_result_return_none(self):
        project = Project(DOWN)
        self.assertEqual([project.promise("a", *SAFE_SINCE_2), project.forget("a"), project.put(DOWN["p"]),
                          project.put(Procedure("q", 1)), project.drop("q"), project.catch(SITE, 0),
                          project.bare(()), project.restart((1,))], [None] * 8)
        self.assertEqual(project.deeds, ("promise", "forget", "put", "put", "drop", "catch", "bare", "restart"))

    def test_nothing_that_is_returned_gives_access(self):
        project = some_deeds()
        before = state(project)
        project.promises.clear()
        project.promises["a"] = None
        self.assertEqual(state(project), before)
        self.assertIs(type(project.promises["deep"]), tuple)


class Promises(unittest.TestCase):
    def check_kept(self, program, right, *parts):
        """The promise is kept or not."""
        project = Project(program)
        if right:
            project.promise("name", *parts)
            self.assertEqual((project["name"], project.deeds), (parts, ("promise",)))
        else:
            check_refused(self, project, Refused, {"name": "name"}, project.promise, "name", *parts)

    def test_all_situations_at_small_limits(self):
        for program in [TURN, DOWN, *SMALL]:
            whole = enough(program)
            for limit in (0, 1, 2, 3):
                graph = all_situations(program, limit)
                alone = Limits.only((limit,))
                self.check_kept(program, not any(spot == "failed" for _, _, spot in graph), "safe", alone)
                self.check_kept(program, not can_go_on(graph), "ends", alone)
                shown = model_signs(program, limit)
                for sign in all_signs(program)[::3]:
                    self.check_kept(program, sign in shown, "shown", sign, alone)
                    self.check_kept(program, sign not in shown, "hidden", sign, alone)
                self.check_kept(program, limit in whole, "enough", alone)

    def test_sets_of_limits(self):
        sets = [EVERY, NONE, EVEN, ~EVEN, Limits.since(2), Limits.only((0, 5)), Limits((1,), 2, 3, (0, 2)), Limits.since(7)]
        for program in [TURN, DOWN, ROUND_40, *SMALL[:20]]:
            rows = [outcome(program, limit) for limit in range(130)]
            fails = [limit for limit, told in enumerate(rows) if told[1] != ()]
            goes_on = members(endless_at(program))
            right = members(enough(program))
            shown = members(sign_limits(program, FULL))
            for limits in sets:
                held = members(limits)
                self.check_kept(program, not set(held) & set(fails), "safe", limits)
                self.check_kept(program, not set(held) & set(goes_on), "ends", limits)
                self.check_kept(program, set(held) <= set(right), "enough", limits)
                self.check_kept(program, set(held) <= set(shown), "shown", FULL, limits)
                self.check_kept(program, not set(held) & set(shown), "hidden", FULL, limits)

    def test_of_all_kinds(self):
        place = ("place", "p", 2, 0)
        for program, parts, right in (
                (TURN, ("safe", EVERY), True), (DOWN, ("safe", EVERY), False), (DOWN, SAFE_SINCE_2, True),
                (TURN, ("ends", EVERY), True), (TURN, ("shown", place, Limits.since(1)), True),
                (TURN, ("shown", place, EVERY), False), (TURN, ("hidden", place, Limits.only((0,))), True),
                (TURN, ("hidden", place, EVEN), False), (DOWN, ("hidden", FULL, Limits.since(3)), True),
                (DOWN, ("hidden", FULL, Limits.since(2)), False), (DOWN, ("enough", Limits.since(2)), True),
                (DOWN, ("enough", Limits.since(1)), False), (TURN, ("enough", Limits.only((5,))), False),
                (TURN, ("shown", ("catch", ("p", 0)), EVERY), True), (TURN, ("hidden", ("enter", ("p", 0)), EVERY), False),
                (TURN, ("shown", ("over", ("p", 0)), EVERY), True), (TURN, ("enough", NONE), True)):
            self.check_kept(program, right, *parts)
        loop = Program(1, (0,), Procedure("p", 1, ("go", 0, 0, ((0, 0),))))
        for limits, right in ((EVERY, False), (NONE, True), (Limits.only((3,)), False)):
            self.check_kept(loop, right, "ends", limits)

    def test_what_is_no_promise(self):
        sites = (("p", 0), ("p", 2))
        wrong = [(), ("safe",), ("safe", EVERY, EVERY), ("safe", FULL, EVERY), ("ends",), ("ends", FULL, EVERY), ("enough",),
                 ("enough", EVERY, 0), ("enough", FULL, EVERY), ("shown", EVERY), ("shown", FULL), ("shown", FULL, EVERY, 0),
                 ("hidden", EVERY), ("hidden", EVERY, FULL), ("shown", EVERY, FULL), ("Safe", EVERY), ("shows", FULL, EVERY),
                 (EVERY,), (EVERY, "safe"), (None, EVERY), (["safe"], EVERY), ("safe", "0+1k"), ("safe", (EVERY,)),
                 (("safe", EVERY),), ("promise", EVERY), ("never", EVERY), ("", EVERY),
                 *[("shown", (word, site), EVERY) for word in ("enter", "over", "catch") for site in sites],
                 ("shown", ("catch", SITE), EVERY), ("hidden", ("place", "p", 3, 0), EVERY), ("hidden", ("full", 0), EVERY),
                 ("hidden", ("place", "q", 0, 0), EVERY), ("hidden", ("place", "p", 0, True), EVERY), ("hidden", ["full"], EVERY)]
        project = Project(DOWN)
        for parts in wrong:
            check_refused(self, project, InvalidOperation, {}, project.promise, "name", *parts)
        for value in [value for value in VALUES if not isinstance(value, Limits)]:
            for parts in (("safe", value), ("ends", value), ("enough", value), ("shown", FULL, value), ("hidden", FULL, value),
                          ("shown", value, EVERY), ("hidden", value, EVERY), (value, EVERY), (value, FULL, EVERY), (value,)):
                check_raises(self, InvalidOperation, {}, project.promise, "name", *parts)

    def test_names(self):
        project = Project(DOWN)
        project.promise("deep", *SAFE_SINCE_2)
        wrong = [value for value in VALUES if value not in ("a", "main")]
        for value in [*wrong, "deep", "DEEP", "d1", "abcdefghi"]:
            check_raises(self, InvalidOperation, {}, project.promise, value, *SAFE_SINCE_2)
            # The name is looked at first.
            check_raises(self, InvalidOperation, {}, project.promise, value, "safe", EVERY)
        check_refused(self, project, InvalidOperation, {}, project.promise, "deep", "safe", EVERY)
        for name in ("a", "abcdefgh", "safe", "p"):
            project.promise(name, *SAFE_SINCE_2)
        self.assertEqual(list(project.promises), ["a", "abcdefgh", "deep", "p", "safe"])
        self.assertEqual([name in project for name in ("a", "p", "q", "deep")], [True, True, False, True])
        for value in [value for value in VALUES if value != "a"]:
            self.assertIs(value in project, False)
            check_raises(self, UnknownName, {"name": value}, project.forget, value)
            check_raises(self, UnknownName, {"name": value}, lambda name: project[name], value)

    def test_too_many(self):
        late = idle_main(ring_program((5, 7, 9), 6, 5))
        for parts in (("safe", EVERY), ("safe", NONE), ("ends", EVERY), ("shown", FULL, EVERY), ("hidden", FULL, NONE),
                      ("enough", EVERY)):
            for program in (late, JUST_401, ROUND_630):
                project = Project(program)
                check_refused(self, project, TooMany, {"limit": 400}, project.promise, "name", *parts)
        # What has the wrong form is told first.
        check_refused(self, project, InvalidOperation, {}, project.promise, "name", "shown", ("enter", ("p", 7)), EVERY)

    def test_sets_with_great_periods(self):
        # The main procedure of this one fails in rounds of 16 limits, first at the limits 8 to 15 or so.
        fails = [limit for limit in range(2000) if outcome(JUST_400, limit % 400)[1] != ()]
        self.assertEqual(sorted({limit % 16 for limit in fails}), fails[:fails.index(fails[0] + 16)])
        outside = [rest for rest in range(16) if rest not in fails][0]
        for period, rest, error in ((125, 3, Refused), (16, outside, None), (48, outside, None), (16, fails[0], Refused),
                                    (126, 3, Refused), (127, 3, TooMany), (1999, 0, TooMany), (2000, 16 + outside, None)):
            project = Project(JUST_400)
            found = raised(project.promise, "name", "safe", Limits((), 0, period, (rest,)))
            self.assertIs(type(found), type(None) if error is None else error)
            self.assertEqual((getattr(found, "limit", 2000), len(project)), (2000, error is None))
        place = ("place", "p", 2, 0)
        self.assertEqual(sign_limits(ROUND_40, place).period, 4)
        for word in ("shown", "hidden"):
            for period, error in ((499, Refused), (501, TooMany), (2000, Refused), (1999, TooMany), (40, Refused)):
                found = raised(Project(ROUND_40).promise, "name", word, place, Limits((), 0, period, (0, 1, 2, 3)))
                self.assertIs(type(found), error)
                self.assertEqual(getattr(found, "limit", 2000), 2000)
        # What is true at all limits has the period 1, so each set is right.
        project = Project(TURN)
        project.promise("a", "safe", Limits((), 0, 1999, (0, 5)))
        project.promise("b", "shown", FULL, Limits((3,), 2000, 2000, (0, 1999)))
        self.assertEqual(len(project), 2)


class Changes(unittest.TestCase):
    def test_programs(self):
        project = Project(DOWN)
        program = DOWN
        other = Procedure("q", 2, ("call", 0, 1, "p", (1,), 0))
        for call, given, made in (
                ("catch", (SITE, 2), lambda one: one.with_caught(SITE, 2)), ("bare", ((SITE, SITE),), lambda one: DOWN),
                ("put", (other,), lambda one: one.with_procedure(other)), ("restart", ((0, 1),), lambda one: one.with_starts((0, 1))),
                ("catch", (("q", 0), None), lambda one: one.with_caught(("q", 0), None)), ("bare", ((),), lambda one: one),
                ("put", (Procedure("p", 1),), lambda one: one.with_procedure(Procedure("p", 1))),
                ("drop", ("q",), lambda one: one.without("q")), ("restart", ((2,),), lambda one: one.with_starts((2,)))):
            program = made(program)
            before = project.deeds
            self.assertIsNone(getattr(project, call)(*given))
            self.assertEqual((project.program, project.deeds), (program, (*before, call)))
            self.assertEqual(steps_back(project), (len(before) + 1, 0))

    def test_their_errors(self):
        project = some_deeds()
        for site in [*VALUES, ("p", 0), ("p", 9), ("q", 1), ("p", True), ["p", 1], SITE + (0,)]:
            check_raises(self, UnknownSite, {"site": site}, project.catch, site, None)
            check_raises(self, UnknownSite, {"site": site}, project.catch, site, 99)
            check_raises(self, UnknownSite, {"site": site}, project.bare, (SITE, site))
        for point in [value for value in [*NO_INTEGERS, *NEGATIVE, 3, 8, LONG] if value is not None]:
            check_raises(self, InvalidOperation, {}, project.catch, SITE, point)
        for sites in NO_TUPLES:
            check_raises(self, UnknownSite, {"site": sites}, project.bare, sites)
        for modes in [*[value for value in VALUES if value not in ((1,), (0, 1))], (2, 0), (0, 3), (0, 0), (True,), (-1, 0)]:
            check_raises(self, InvalidOperation, {}, project.restart, modes)
        for procedure in [*[value for value in VALUES if not isinstance(value, Procedure)],
                          Procedure("q", 1, ("call", 0, 0, "r", (0,), None)), Procedure("q", 1, ("leave", 0, (3,)))]:
            check_raises(self, InvalidOperation, {}, project.put, procedure)
        for name in [*VALUES, "q", "deep", "P"]:
            check_raises(self, UnknownName, {"name": name}, project.drop, name)
        check_refused(self, project, InvalidOperation, {}, project.drop, "p")
        self.assertEqual((state(project), steps_back(project)), (state(some_deeds()), (8, 1)))

    def test_promises_that_are_not_kept_any_more(self):
        project = Project(DOWN)
        project.promise("deep", *SAFE_SINCE_2)
        project.promise("b", "enough", Limits.since(2))
        project.promise("zz", "hidden", ("place", "p", 2, 2), Limits.only((9,)))
        falls = Procedure("p", 3, *DOWN["p"].moves, ("fail", 0, (2,)))
        check_refused(self, project, Refused, {"name": "deep"}, project.put, falls)
        # Of several ones the first name is told.
        small = Procedure("p", 2, ("fail", 0, (2,)))
        check_refused(self, project, Refused, {"name": "deep"}, project.put, small)
        project.forget("deep")
        check_refused(self, project, Refused, {"name": "zz"}, project.put, small)
        project.forget("zz")
        project.put(small)
        # A fall in the mode 2 at the limit 0 and at the limit 1 as without a limit.
        self.assertEqual((project.deeds[-1], len(project)), ("put", 1))

    def test_a_sign_that_is_none_any_more(self):
        program = TURN.with_procedure(Procedure("q", 2, ("leave", 0, (0,))))
        project = Project(program)
        project.promise("a", "shown", ("catch", ("p", 0)), EVERY)
        project.promise("c", "hidden", ("place", "q", 1, 0), EVERY)
        check_refused(self, project, Refused, {"name": "a"}, project.bare, (("p", 0),))
        check_refused(self, project, Refused, {"name": "a"}, project.catch, ("p", 0), None)
        check_refused(self, project, Refused, {"name": "c"}, project.drop, "q")
        check_refused(self, project, Refused, {"name": "c"}, project.put, Procedure("q", 1))
        project.catch(("p", 0), 1)
        project.put(Procedure("q", 2))
        project.forget("c")
        project.drop("q")
        self.assertEqual(project.program, TURN)

    def test_each_call_looks_at_the_promises(self):
        program = DOWN.with_procedure(Procedure("q", 1, ("leave", 0, (0,)))).with_caught(SITE, 2)
        project = Project(program)
        project.promise("n", "safe", EVERY)
        check_refused(self, project, Refused, {"name": "n"}, project.bare, (SITE,))
        check_refused(self, project, Refused, {"name": "n"}, project.catch, SITE, None)
        check_refused(self, project, Refused, {"name": "n"}, project.put, Procedure("p", 1, ("fail", 0, (2,))))
        project.drop("q")
        project.restart((0,))
        project.bare((SITE,))
        check_refused(self, project, Refused, {"name": "n"}, project.restart, (0, 2))
        failing = Project(Program(1, (0,), Procedure("a", 1), Procedure("b", 1, ("fail", 0, (0,)))))
        failing.promise("n", "safe", EVERY)
        check_refused(self, failing, Refused, {"name": "n"}, failing.drop, "a")

    def test_too_many_of_what_a_promise_asks(self):
        late = ring_program((5, 7, 9), 6, 5)
        others = [one for one in late.procedures if one.called != "t"]
        quick = Program.of(6, (0,), (*others, Procedure("t", 1, ("leave", 0, tuple(range(6))))))
        project = Project(quick)
        project.put(late["t"])
        project.undo()
        for name, parts in (("c", ("enough", NONE)), ("b", ("hidden", FULL, NONE)), ("a", ("safe", Limits.none()))):
            project.promise(name, *parts)
            check_refused(self, project, TooMany, {"limit": 400}, project.put, late["t"])

    def test_a_refused_name_comes_ahead_of_too_many(self):
        late = ring_program((5, 7, 9), 6, 5)
        others = [one for one in late.procedures if one.called != "t"]
        quick = Program.of(6, (0,), (*others, Procedure("t", 8, ("leave", 0, tuple(range(6))), ("call", 7, 0, "p", (0,), 0))))
        gone = ("catch", ("t", 1))
        late_t = Procedure("t", 8, late["t"].moves[0], ("leave", 2, (0,)), *late["t"].moves[1:])
        for name, error, kept in (("a", Refused, {"name": "a"}), ("z", TooMany, {"limit": 400})):
            project = Project(quick)
            project.promise(name, "hidden", gone, NONE)
            project.promise("m", "safe", NONE)
            check_refused(self, project, error, kept, project.put, late_t)


class BackAndForth(unittest.TestCase):
    def test_none_all_more(self):
        project = some_deeds()
        self.assertEqual(project.deeds, ("promise", "promise", "catch", "bare", "put", "drop", "restart", "forget"))
        self.assertEqual([project.undo(many=0), project.redo(many=0)], [8, 8])
        check_refused(self, project, NothingToUndo, {"many": 2}, lambda: project.redo(many=2))
        check_refused(self, project, NothingToUndo, {"many": 9}, lambda: project.undo(many=9))
        check_refused(self, project, NothingToUndo, {"many": LONG}, lambda: project.undo(many=LONG))
        self.assertEqual([project.redo(), "c" in project, project.undo(many=9)], [9, True, 0])
        self.assertEqual(state(project), state(Project(DOWN)))
        check_refused(self, project, NothingToUndo, {"many": 1}, project.undo)
        self.assertEqual([project.undo(many=0), project.redo(many=2), project.redo(), project.undo(), project.redo(many=7)],
                         [0, 2, 3, 2, 9])
        check_refused(self, project, NothingToUndo, {"many": 1}, project.redo)
        self.assertEqual(list(project.promises), ["c", "deep"])

    def test_wrong_numbers(self):
        project = some_deeds()
        for value in [*NO_INTEGERS, *NEGATIVE]:
            check_raises(self, InvalidNumber, {"value": value}, lambda many: project.undo(many=many), value)
            check_raises(self, InvalidNumber, {"value": value}, lambda many: project.redo(many=many), value)
        self.assertEqual(state(project), state(some_deeds()))
        for call in (project.undo, project.redo):
            self.assertIs(type(raised(call, 1)), TypeError)

    def test_a_new_call_ends_what_can_be_done_again(self):
        for name, given in (("promise", ("x", "safe", NONE)), ("forget", ("deep",)), ("put", (DOWN["p"],)), ("catch", (SITE, None)),
                            ("bare", ((),)), ("restart", ((0, 2),))):
            project = some_deeds()
            self.assertEqual(steps_back(project), (8, 1))
            getattr(project, name)(*given)
            self.assertEqual(steps_back(project), (9, 0))
            check_refused(self, project, NothingToUndo, {"many": 1}, project.redo)
            self.assertEqual(project.deeds[-1], name)
        project = some_deeds()
        project.undo(many=4)
        self.assertEqual((project.program.names, steps_back(project)), (("p",), (4, 5)))
        # A call that raises an error ends nothing.
        raised(project.put, None)
        self.assertEqual(project.redo(), 5)
        project.drop("q")
        self.assertEqual(steps_back(project), (6, 0))

    def test_calls_that_leave_everything_equal_count(self):
        project = Project(DOWN)
        project.bare(())
        project.restart((2,))
        project.put(DOWN["p"])
        project.catch(SITE, None)
        self.assertEqual((project.program, project.deeds), (DOWN, ("bare", "restart", "put", "catch")))
        self.assertEqual([project.undo(), project == Project(DOWN)], [3, True])

    def test_by_chance(self):
        # The states are kept beside, as a plain list.
        chance = random.Random(172)
        project, states, at = Project(DOWN), [state(Project(DOWN))], 0
        for number in range(300):
            word = chance.choice(["undo", "redo", "promise", "forget", "catch", "bare", "restart", "put", "drop"])
            many = chance.randrange(4)
            given = {"promise": (chance.choice("abc"), "hidden", FULL, Limits.since(400 + number)),
                     "forget": (chance.choice("abc"),), "catch": (SITE, chance.choice([None, 0, 1, 2])), "bare": ((SITE,),),
                     "restart": (chance.choice([(0,), (1,), (2,), (0, 2)]),),
                     "put": (Procedure("q", chance.randint(1, 3)),), "drop": ("q",)}.get(word)
            if given is None:
                found = raised(lambda: getattr(project, word)(many=many))
                possible = at if word == "undo" else len(states) - 1 - at
                self.assertIs(type(found), NothingToUndo if many > possible else type(None))
                if found is None:
                    at += many if word == "redo" else -many
            elif raised(getattr(project, word), *given) is None:
                at += 1
                states[at:] = [state(project)]
                self.assertEqual(project.deeds[-1], word)
            self.assertEqual(state(project), states[at])
            self.assertEqual(project.undo(many=0), at)


class Twins(unittest.TestCase):
    def test_each_goes_its_own_way(self):
        project = some_deeds()
        twin = project.twin()
        self.assertIs(type(twin), Project)
        self.assertEqual((state(twin), steps_back(twin)), (state(project), steps_back(project)))
        twin.forget("deep")
        twin.restart((1,))
        self.assertEqual((state(project), steps_back(project)), (state(some_deeds()), (8, 1)))
        project.undo(many=8)
        self.assertEqual((twin.deeds[-2:], twin.program.starts, steps_back(twin)), (("forget", "restart"), (1,), (10, 0)))
        project.promise("new", "safe", NONE)
        self.assertEqual([twin.undo(many=10), state(twin) == state(Project(DOWN)), twin.redo(many=3)], [0, True, 3])

    def test_a_twin_takes_back_and_does_again_the_same(self):
        project = some_deeds()
        project.undo(many=3)
        twin = project.twin()
        for call in (Project.redo, Project.redo, Project.undo, Project.redo, Project.redo, Project.redo):
            self.assertEqual(call(twin), call(project))
            self.assertEqual(state(twin), state(project))

    def test_a_twin_of_a_block(self):
        project = Project(DOWN)
        with project.trial():
            project.restart((0,))
            twin = project.twin()
            with twin.trial():
                twin.restart((1,))
            project.restart((1,))
        self.assertEqual([project.program.starts, twin.program.starts, twin.deeds], [(2,), (0,), ("restart",)])
        self.assertEqual(twin.undo(), 0)


class Blocks(unittest.TestCase):
    def check_as_before(self, block):
        """Behind the block the project is as it was, whatever is done in it and with it."""
        project = some_deeds()
        before = (state(project), steps_back(project))
        block(project)
        self.assertEqual((state(project), steps_back(project)), before)
        project.redo()
        project.undo(many=9)
        self.assertEqual(state(project), state(Project(DOWN)))

    def test_a_block(self):
        def block(project):
            with project.trial() as same:
                self.assertIs(same, project)
                self.assertEqual(steps_back(project), (8, 1))
                project.forget("deep")
                same.restart((1,))
                self.assertEqual((project.deeds[-2:], len(project), steps_back(project)), (("forget", "restart"), 0, (10, 0)))
        self.check_as_before(block)

    def test_taking_back_in_a_block(self):
        def block(project):
            with project.trial():
                self.assertEqual([project.undo(many=8), project.program == DOWN], [0, True])
                project.promise("a", "safe", NONE)
        self.check_as_before(block)

    def test_a_block_that_ends_with_an_error(self):
        def block(project):
            for error in (KeyError, Refused):
                with self.assertRaises(error):
                    with project.trial():
                        project.restart((1,))
                        raise error("x")
            found = raised(project.during, lambda same: same.put(None))
            self.assertIs(type(found), InvalidOperation)
        self.check_as_before(block)

    def test_a_block_that_is_left_early(self):
        def leave(project):
            for number in range(5):
                with project.trial():
                    project.restart((number % 2,))
                    if number == 1:
                        continue
                    if number == 3:
                        return project.program.starts
            return None

        def block(project):
            self.assertEqual(leave(project), (1,))
        self.check_as_before(block)

    def test_a_block_within_a_block(self):
        def block(project):
            with project.trial():
                project.restart((1,))
                with project.trial() as same:
                    same.restart((0,))
                    with same.trial():
                        project.undo(many=9)
                        self.assertEqual(project.deeds, ("promise",))
                    self.assertEqual((project.program.starts, len(project.deeds)), ((0,), 10))
                self.assertEqual((project.program.starts, project.deeds[-1], steps_back(project)), ((1,), "restart", (9, 0)))
                with project.trial():
                    project.undo()
                    self.assertEqual(project.program.starts, (0, 2))
                self.assertEqual(project.program.starts, (1,))
                project.restart((2,))
                self.assertEqual((project.program.starts, steps_back(project)), ((2,), (10, 0)))
        self.check_as_before(block)

    def test_one_block_several_times(self):
        def block(project):
            trial = project.trial()
            for starts in ((0,), (1,)):
                with trial as same:
                    same.restart(starts)
                self.assertEqual(project.program.starts, (0, 2))
            with trial:
                project.restart((1,))
                with trial:
                    project.restart((2,))
                self.assertEqual(project.program.starts, (1,))
        self.check_as_before(block)

    def test_a_block_begins_where_it_is_entered(self):
        project = Project(DOWN)
        trial = project.trial()
        project.restart((0,))
        with trial:
            project.restart((1,))
        self.assertEqual((project.program.starts, project.deeds), ((0,), ("restart",)))

    def test_during(self):
        def block(project):
            self.assertEqual(project.during(lambda same: (same.restart((1,)), same.deeds, same is project)),
                             (None, (*project.deeds, "restart"), True))
            self.assertIsNone(project.during(lambda same: same.forget("deep")))
            self.assertEqual(project.during(lambda same: same.during(lambda other: other.undo(many=8)) + same.undo()), 7)
            self.assertIs(type(raised(project.during, lambda same: same.undo(many=99))), NothingToUndo)
        self.check_as_before(block)


class Texts(unittest.TestCase):
    def test_str_and_len(self):
        project = Project(TURN)
        for number, name in enumerate("abc"):
            self.assertEqual((len(project), str(project)), (number, f"project with {number} promises"))
            project.promise(name, "safe", EVERY)

    def test_equal(self):
        one, other = some_deeds(), Project(DOWN)
        self.assertEqual([one == other, one != other, one == one.twin(), one != one.twin()], [False, True, True, False])
        other.promise("deep", "safe", Limits((), 2, 1, (0,)))
        self.assertIs(one == other, False)
        other.restart((0, 2))
        # Only the program and the promises count, not how they came.
        self.assertIs(one == other, True)
        other.forget("deep")
        other.promise("deep", "safe", Limits.since(3))
        self.assertIs(one == other, False)
        other.forget("deep")
        other.promise("deeper", *SAFE_SINCE_2)
        self.assertIs(one == other, False)
        for value in [*VALUES, DOWN, "project with 0 promises", None]:
            self.assertIs(Project(DOWN) == value, False)
            self.assertIs(Project(DOWN) != value, True)
            self.assertIs(value == Project(DOWN), False)

    def test_a_promise(self):
        project = some_deeds()
        self.assertEqual((project["deep"], project.promises), (SAFE_SINCE_2, {"deep": SAFE_SINCE_2}))
        self.assertIs("deep" in project, True)
        for value in ("c", "b", "deeper", ("deep",), ["deep"], None, 0):
            self.assertIs(value in project, False)
            check_raises(self, UnknownName, {"name": value}, lambda name: project[name], value)


if __name__ == "__main__":
    unittest.main()
