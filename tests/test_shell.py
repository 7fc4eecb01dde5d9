"""[0.2], [0.4], [18.1] and stage 18: a shell."""

import inspect
import unittest

from deepenough.ask.depths import most_open
from deepenough.ask.enough import enough
from deepenough.ask.signs import shows, sign_limits
from deepenough.base.programs import Procedure, Program
from deepenough.compare.catches import idle_catches
from deepenough.compare.programs import parting_limit, same_limits
from deepenough.errors import (InvalidCommand, InvalidLimit, InvalidOperation, InvalidProgram, InvalidSign, ParseError,
                               TooMany, UnknownName, UnknownSite)
from deepenough.give.ends import outcome
from deepenough.know.rounds import Rounds
from deepenough.text.shell import Shell
from deepenough.text.texts import write_program

from helper import (DOWN, JUST_401, LATE_35, LONG, NO_TUPLES, ROUND_40, TURN, VALUES, all_signs, check_examples,
                    check_not_iterable, check_raises, raised, ring_program, some_programs)

EXAMPLES = """
>>> shell = Shell()
>>> [shell("new turn\\n" + write_program(TURN)), shell("round turn"), shell("limits turn place p 2 0"), shell("outcome turn 7")]
['program of 1 procedures, 2 modes', (0, 2), '1+1k', ((0,), (), False)]
>>> [shell("bare turn p 0"), shell("shows turn 3 over p 0"), shell("open turn none"), shell("enough turn"), str(shell), len(shell.script)]
[None, True, None, 'none', 'shell with 1 programs', 2]
"""

NAMES = {"Shell": Shell, "write_program": write_program, "TURN": TURN}
SMALL = some_programs(181, 30, points=4, moves=6)
FORTY = "9" * 40
EIGHT = "abcdefgh"
NUMBERS = ["00", "01", "007", "-1", "+1", "1.0", "1e1", "1_0", " 1", "1 ", "", "x", "0x1", "1k", "None", "True", "(0)", "\u0661"]


def new(name, program):
    return f"new {name}\n{write_program(program)}"


def made(**programs):
    """A shell with these programs."""
    shell = Shell()
    for name, program in programs.items():
        shell.run(new(name, program))
    return shell


def state(shell):
    """All that can be seen of a shell."""
    return (shell.names, shell.programs, shell.script, len(shell), str(shell))


def check_refused(case, shell, error, kept, command):
    """The command raises this error, and nothing has changed behind it."""
    before = state(shell)
    check_raises(case, error, kept, shell.run, command)
    check_raises(case, error, kept, shell, command)
    case.assertEqual(state(shell), before)


def words_of(sign):
    """A sign as a command tells it."""
    parts = sign[1] if sign[0] in ("enter", "over", "catch") else sign[1:]
    return " ".join([sign[0], *[str(part) for part in parts]])


class Examples(unittest.TestCase):
    def test_examples_of_the_document(self):
        check_examples(self, EXAMPLES, NAMES)


class Interface(unittest.TestCase):
    def test_all_is_defined_in_the_class_itself(self):
        for name in "run names programs script replayed __init__ __call__ __contains__ __len__ __eq__ __str__".split():
            self.assertIn(name, vars(Shell))
        self.assertEqual(Shell.__module__, "deepenough.text.shell")
        self.assertEqual([str(inspect.signature(call)) for call in (Shell, Shell.run, Shell.replayed)],
                         ["()", "(self, command)", "(script)"])

    def test_a_new_shell(self):
        shell = Shell()
        self.assertEqual(state(shell), ((), {}, (), 0, "shell with 0 programs"))
        check_not_iterable(self, shell, made(a=TURN))
        for name in ("names", "programs", "script"):
            self.assertIs(type(raised(setattr, shell, name, 1)), AttributeError)

    def test_nothing_that_is_returned_gives_access(self):
        shell = made(b=TURN, a=DOWN)
        shell.programs.clear()
        self.assertEqual((list(shell.programs), shell.names, len(shell.script)), (["a", "b"], ("a", "b"), 2))
        self.assertEqual((type(shell.names), type(shell.script)), (tuple, tuple))


class Changing(unittest.TestCase):
    def test_new(self):
        shell = Shell()
        for name, program in (("b", TURN), ("abcdefgh", DOWN), ("a", ROUND_40)):
            self.assertEqual(shell.run(new(name, program)), str(program))
            self.assertEqual(shell.programs[name], program)
        self.assertEqual(shell.names, ("a", "abcdefgh", "b"))
        self.assertEqual(shell.script, (new("b", TURN), new("abcdefgh", DOWN), new("a", ROUND_40)))

    def test_wrong_texts(self):
        shell = made(a=TURN)
        text = write_program(TURN)
        for text, line in (("", 0), ("\n", 0), ("x", 0), ("\n" + text, 0), (text + "\n", 5), (text + " ", 4),
                           (text.replace("  go", " go"), 3), (text + "\n\n", 5), ("modes 2 starts 0\nx", 1)):
            check_refused(self, shell, ParseError, {"line": line}, f"new b\n{text}")
        for text in ("modes 2 starts 0", "modes 0 starts 0\nprocedure p 1", "modes 2 starts 2\nprocedure p 1",
                     "modes 2 starts 0\nprocedure p 9", "modes 2 starts 0\nprocedure p 1\n  call 0 0 q in 0"):
            check_refused(self, shell, InvalidProgram, {}, f"new b\n{text}")
        # A name that is there is told ahead of the text.
        check_refused(self, shell, InvalidOperation, {}, "new a\nx")

    def test_copy_and_drop(self):
        shell = made(a=TURN)
        self.assertEqual([shell("copy a b"), shell("copy b z"), shell.names], [None, None, ("a", "b", "z")])
        self.assertEqual([shell.programs[name] for name in "abz"], [TURN, TURN, TURN])
        self.assertIsNone(shell("bare b p 0"))
        self.assertEqual([shell.programs[name].catches for name in "abz"], [(("p", 0),), (), (("p", 0),)])
        self.assertEqual([shell("drop a"), shell.names, "a" in shell], [None, ("b", "z"), False])
        self.assertEqual([shell("copy z a"), shell.names], [None, ("a", "b", "z")])
        self.assertEqual(shell.script[1:], ("copy a b", "copy b z", "bare b p 0", "drop a", "copy z a"))

    def test_catch_bare_and_start(self):
        two = Program(3, (0,), Procedure("p", 3, ("go", 0, 1, ((0, 1),)), ("call", 1, 2, "q", (1,), None)),
                      Procedure("q", 2, ("call", 0, 1, "p", (0, 2), 1)))
        shell = made(a=two)
        program = two
        for command, call in (("catch a p 1 2", lambda: program.with_caught(("p", 1), 2)),
                              ("catch a p 1 0", lambda: program.with_caught(("p", 1), 0)),
                              ("catch a q 0 0", lambda: program.with_caught(("q", 0), 0)),
                              ("bare a q 0", lambda: program.without_catches((("q", 0),))),
                              ("bare a q 0 p 1 q 0", lambda: program.without_catches((("p", 1),))),
                              ("bare a p 1", lambda: program), ("start a 2", lambda: program.with_starts((2,))),
                              ("start a 0 2", lambda: program.with_starts((0, 2))),
                              ("start a 0 1 2", lambda: program.with_starts((0, 1, 2)))):
            program = call()
            before = shell.script
            self.assertIsNone(shell(command))
            self.assertEqual((shell.programs, shell.script), ({"a": program}, (*before, command)))

    def test_what_they_call_raises(self):
        shell = made(a=TURN, b=DOWN)
        for command, error, kept in (
                ("catch a p 1 0", UnknownSite, {"site": ("p", 1)}), ("catch a q 0 0", UnknownSite, {"site": ("q", 0)}),
                ("catch a p 99 99", UnknownSite, {"site": ("p", 99)}), ("catch a p 0 3", InvalidOperation, {}),
                ("catch a p 0 99", InvalidOperation, {}), ("bare a p 1", UnknownSite, {"site": ("p", 1)}),
                ("bare a p 0 b 0 c 0", UnknownSite, {"site": ("b", 0)}), ("start a 2", InvalidOperation, {}),
                ("start a 0 1 2", InvalidOperation, {}), ("start a 9", InvalidOperation, {}),
                ("open a 401", InvalidLimit, {}), (f"open a {FORTY}", InvalidLimit, {}),
                ("shows a 0 place p 3 0", InvalidSign, {}), ("shows a 0 place q 0 0", InvalidSign, {}),
                ("shows a none place p 0 2", InvalidSign, {}), ("shows a 5 enter p 1", InvalidSign, {}),
                ("shows b 5 catch p 1", InvalidSign, {}), ("limits a over p 99", InvalidSign, {}),
                ("limits b catch p 1", InvalidSign, {}), ("same a b", InvalidOperation, {}), ("parts b a", InvalidOperation, {})):
            check_refused(self, shell, error, kept, command)

    def test_calls_that_leave_everything_equal_count(self):
        shell = made(a=TURN)
        for command in ("start a 0", "catch a p 0 1", "bare a p 0", "bare a p 0", "start a 0"):
            self.assertIsNone(shell(command))
        self.assertEqual(shell.script[1:], ("start a 0", "catch a p 0 1", "bare a p 0", "bare a p 0", "start a 0"))


class Asking(unittest.TestCase):
    def test_replies(self):
        for program in [TURN, DOWN, ROUND_40, LATE_35, *SMALL]:
            other = program.without_catches(program.catches)
            shell = made(b=program, a=other)
            before = state(shell)
            rounds = Rounds(program)
            for command, reply in (("text b", write_program(program)), ("round b", (rounds.first, rounds.period)),
                                   ("enough b", str(enough(program))), ("idle b", idle_catches(program)),
                                   ("same b a", str(same_limits(program, other))), ("same a a", "0+1k"),
                                   ("parts b a", parting_limit(program, other)), ("parts a a", None)):
                self.assertEqual(shell(command), reply)
                self.assertEqual(shell.run(command), reply)
            for word, limit in (("none", None), ("0", 0), ("1", 1), ("39", 39), ("400", 400), (FORTY, int(FORTY))):
                self.assertEqual(shell(f"outcome b {word}"), outcome(program, limit))
                if limit is None or limit < 401:
                    self.assertEqual(shell(f"open b {word}"), most_open(program, limit))
                for sign in all_signs(program)[::7]:
                    self.assertIs(shell(f"shows b {word} {words_of(sign)}"), shows(program, limit, sign))
            for sign in all_signs(program)[::3]:
                self.assertEqual(shell(f"limits b {words_of(sign)}"), str(sign_limits(program, sign)))
            # Nothing of this has changed the shell.
            self.assertEqual(state(shell), before)

    def test_texts(self):
        shell = made(a=TURN)
        self.assertEqual(shell("text a"), "modes 2 starts 0\nprocedure p 3\n  call 0 1 p in 0 1 caught 1\n  go 1 2 by 01 10\n  leave 2 in 0 1")
        self.assertEqual(shell("new b\n" + shell("text a")), "program of 1 procedures, 2 modes")
        self.assertEqual([shell("same a b"), shell("parts a b")], ["0+1k", None])

    def test_all_five_kinds_of_signs(self):
        shell = made(a=TURN)
        self.assertEqual([shell(f"limits a {sign}") for sign in ("place p 2 0", "enter p 0", "over p 0", "catch p 0", "full")],
                         ["1+1k", "1+1k", "0+1k", "0+1k", "0+1k"])
        self.assertEqual([shell(f"shows a none {sign}") for sign in ("place p 0 0", "enter p 0", "over p 0", "catch p 0", "full")],
                         [True, True, False, False, False])

    def test_too_many(self):
        late = ring_program((5, 7, 9), 6, 5)
        shell = made(a=late, b=JUST_401)
        for command in ("round a", "round b", "outcome a 400", f"outcome b {FORTY}", "limits a full", "enough b", "idle a",
                        "same a a", "parts b b", "shows a 400 full", "limits b place p 0 0"):
            check_refused(self, shell, TooMany, {"limit": 400}, command)
        for command in ("outcome a 399", "outcome a none", "open a 400", "shows b 399 full", "text b"):
            self.assertIsNone(raised(shell, command))
        one, other = ring_program((7, 11), 6, 5), ring_program((13,), 6, 5)
        shell = made(a=one, b=other)
        for command in ("same a b", "parts a b"):
            check_refused(self, shell, TooMany, {"limit": 2000}, command)


class Words(unittest.TestCase):
    def setUp(self):
        self.shell = made(a=TURN, p=TURN)

    def check_no_commands(self, *commands):
        for command in commands:
            check_refused(self, self.shell, InvalidCommand, {}, command)

    def check_commands(self, *commands):
        """They are commands by their words, whatever they do."""
        for command in commands:
            self.assertNotIsInstance(raised(self.shell, command), InvalidCommand)

    def test_other_values(self):
        self.check_no_commands(*VALUES, "text", "A", ("text", "a"), ["text a"], b"text a", ("text a",))

    def test_blanks_and_newlines(self):
        right = ("drop q", "copy q r", "catch a p 0 1", "bare a p 0", "start a 0 1", "text a", "round a", "outcome a 0",
                 "open a none", "shows a 0 full", "limits a place p 0 0", "enough a", "idle a", "same a p", "parts a p")
        self.check_commands(*right)
        for command in right:
            self.check_no_commands(" " + command, command + " ", command.replace(" ", "  ", 1), command + "\n",
                                   "\n" + command, command.replace(" ", "\n", 1), command.replace(" ", "\t", 1), command + "\nx",
                                   command.upper(), command.replace(" ", ""), command + "  ", command.replace(" ", "", 1))
            for at in range(len(command.split(" "))):
                words = command.split(" ")
                self.check_no_commands(" ".join([*words[:at], "", *words[at:]]), " ".join([*words[:at], "%", *words[at:]]))

    def test_words_of_new(self):
        text = write_program(TURN)
        self.check_no_commands("new a", "new", "new \n" + text, "new\n" + text, "new a b\n" + text, "new A\n" + text,
                               " new b\n" + text, "new b \n" + text, "new  b\n" + text, "new b1\n" + text, "new\nb\n" + text,
                               "new abcdefghi\n" + text, "NEW b\n" + text, "news b\n" + text, "new b " + text, "new b")
        # One line below is enough, also an empty one.
        check_refused(self, self.shell, ParseError, {"line": 0}, "new b\n")
        self.assertEqual(self.shell(f"new {EIGHT}\n" + text), str(TURN))

    def test_names(self):
        for command in ("copy {} b", "copy a {}", "drop {}", "catch {} p 0 1", "bare {} p 0", "start {} 0", "text {}",
                        "round {}", "outcome {} 0", "open {} 0", "shows {} 0 full", "limits {} full", "enough {}", "idle {}",
                        "same {} a", "same a {}", "parts {} a", "parts a {}", "catch a {} 0 1", "bare a {} 0",
                        "bare a p 0 {} 0", "shows a 0 place {} 0 0", "limits a place {} 0 0", "limits a enter {} 0",
                        "limits a over {} 0", "limits a catch {} 0"):
            self.check_no_commands(*[command.format(name) for name in ("", "A", "abcdefghi", "a1", "1", "a-b", "none ", "\u00e4")])
            self.check_commands(command.format("zzzzzzzz"), command.format("none"))

    def test_indices_points_and_modes(self):
        for command in ("catch a p {} 1", "catch a p 0 {}", "bare a p {}", "bare a p 0 p {}", "shows a 0 place p {} 0",
                        "shows a 0 place p 0 {}", "limits a place p {} 0", "limits a place p 0 {}", "limits a enter p {}",
                        "limits a over p {}", "limits a catch p {}", "shows a none catch p {}"):
            self.check_no_commands(*[command.format(number) for number in [*NUMBERS, "100", "000", "999", FORTY, "none"]])
            self.check_commands(*[command.format(number) for number in ("0", "9", "10", "99")])

    def test_limits(self):
        for command in ("outcome a {}", "open a {}", "shows a {} full", "shows a {} place p 0 0"):
            self.check_no_commands(*[command.format(number) for number in [*NUMBERS, "1" + "0" * 40, "0" * 40, "0" + FORTY,
                                                                          "None", "NONE", "nones", "non", "all"]])
            self.check_commands(*[command.format(number) for number in ("0", "9", "10", "100", "401", FORTY, "none")])
            self.assertIsNone(raised(self.shell, "outcome a 1" + "0" * 39))

    def test_modes(self):
        self.check_no_commands("start a", "start a ", "start a 01", "start a 0,1", "start a 1 0", "start a 0 0", "start a 0 1 1",
                               "start a 10", "start a 0 x", "start a -1", "start a 0  1", "start a 0 2 1", "start a none",
                               "start a 9 10", "start a \u0661", "start 0", "start a 0 ")
        self.check_commands("start a 0", "start a 9", "start a 0 1 2 3 4 5 6 7 8 9", "start a 3 7")

    def test_signs(self):
        wrong = ["", "place", "place p", "place p 0", "place p 0 0 0", "place 0 0 0", "place p 0 0 ", "enter", "enter p",
                 "enter p 0 0", "enter 0 p", "enter 0", "over", "over p", "over p 0 0", "catch", "catch p", "catch p 0 1", "full 0",
                 "full p", "fulls", "Full", "Place p 0 0", "go p 0", "leave p 0", "p 0", "full full", "enter p 0 enter p 0",
                 "place p q 0", "place p 0 q", "none", "0", "enters p 0"]
        for sign in wrong:
            self.check_no_commands(f"shows a 0 {sign}", f"limits a {sign}", f"shows a none {sign}")
        self.check_no_commands("shows a full", "shows a 0", "limits a", "limits a 0 full", "shows 0 full", "limits full")

    def test_too_few_and_too_many_words(self):
        self.check_no_commands("copy", "copy a", "copy a b c", "drop", "drop a p", "catch", "catch a", "catch a p", "catch a p 0",
                               "catch a p 0 1 2", "catch a p 0 none", "bare", "bare a", "bare a p", "bare a p 0 p", "bare a 0 p",
                               "bare a p 0 0", "bare p 0", "text a b", "round", "round a p", "outcome", "outcome a", "outcome a 0 0",
                               "outcome 0 a", "open a", "open a 0 0", "enough", "enough a a", "idle", "idle a a", "same", "same a",
                               "same a p a", "parts", "parts a", "parts a p a", "", " ", "\n", "x", "a", "script", "names", "undo a",
                               "least a", "rounds a", "deep a", "run a", "replayed a")


class Order(unittest.TestCase):
    def test_names_that_are_not_there(self):
        shell = made(a=TURN, b=DOWN)
        for command, name in (("copy x y", "x"), ("copy x a", "x"), ("copy x x", "x"), ("drop x", "x"), ("catch x q 99 99", "x"),
                              ("bare x q 99", "x"), ("start x 9", "x"), ("text x", "x"), ("round x", "x"), ("outcome x 0", "x"),
                              ("open x 999", "x"), ("shows x 0 enter q 99", "x"), ("limits x place q 99 99", "x"), ("enough x", "x"),
                              ("idle x", "x"), ("same x y", "x"), ("same y x", "y"), ("same a x", "x"), ("same x a", "x"),
                              ("parts x y", "x"), ("parts b x", "x"), ("drop abcdefgh", "abcdefgh")):
            check_refused(self, shell, UnknownName, {"name": name}, command)

    def test_words_ahead_of_names(self):
        shell = made(a=TURN)
        for command in ("copy x Y", "drop x 0", "catch x p 0", "start x 1 0", "shows x 0 full 0", "same x Y", "parts X y",
                        "open x 00", "outcome x -1", "limits x catch p"):
            check_refused(self, shell, InvalidCommand, {}, command)

    def test_names_that_are_there(self):
        shell = made(a=TURN, b=DOWN)
        for command in ("copy a b", "copy a a", new("a", DOWN), "new b\nx", "new a\n"):
            check_refused(self, shell, InvalidOperation, {}, command)

    def test_a_ninth_program(self):
        shell = made(**{name: TURN for name in EIGHT})
        self.assertEqual(len(shell), 8)
        check_refused(self, shell, TooMany, {"limit": 8}, new("i", DOWN))
        check_refused(self, shell, TooMany, {"limit": 8}, "copy a i")
        # All else is told first.
        check_refused(self, shell, ParseError, {"line": 0}, "new i\nx")
        check_refused(self, shell, InvalidProgram, {}, "new i\nmodes 1 starts 0")
        check_refused(self, shell, InvalidOperation, {}, new("a", DOWN))
        check_refused(self, shell, InvalidOperation, {}, "copy a h")
        check_refused(self, shell, UnknownName, {"name": "x"}, "copy x i")
        check_refused(self, shell, InvalidCommand, {}, "new i")
        self.assertEqual([shell("drop c"), shell("copy a i"), shell.names], [None, None, tuple("abdefghi")])
        check_refused(self, shell, TooMany, {"limit": 8}, "copy a c")
        self.assertIsNone(shell("bare i p 0"))


class Scripts(unittest.TestCase):
    def shell(self):
        shell = made(b=TURN, a=DOWN)
        for command in ("copy b c", "round a", "catch a p 1 2", "bare c p 0", "drop b", "start a 0 1 2", "outcome c 3", "copy a d",
                        "start d 1"):
            shell(command)
        raised(shell, "drop b")
        raised(shell, "new a\nx")
        return shell

    def test_only_what_changed_it(self):
        self.assertEqual(self.shell().script, (new("b", TURN), new("a", DOWN), "copy b c", "catch a p 1 2", "bare c p 0", "drop b",
                                               "start a 0 1 2", "copy a d", "start d 1"))

    def test_replayed(self):
        shell = self.shell()
        again = Shell.replayed(shell.script)
        self.assertIs(type(again), Shell)
        self.assertEqual(state(again), state(shell))
        again("drop a")
        self.assertEqual((shell.names, again.names), (("a", "c", "d"), ("c", "d")))
        self.assertEqual(state(Shell.replayed(())), state(Shell()))
        # Commands that only ask may stand in it, too.
        self.assertEqual(Shell.replayed((new("a", TURN), "round a", "text a")).script, (new("a", TURN),))

    def test_wrong_scripts(self):
        for value in [*NO_TUPLES, new("a", TURN), [new("a", TURN)], {new("a", TURN): 1}]:
            check_raises(self, InvalidCommand, {}, Shell.replayed, value)
        for script, error, kept in (
                ((new("a", TURN), "drop b"), UnknownName, {"name": "b"}), ((new("a", TURN), None), InvalidCommand, {}),
                ((new("a", TURN), new("a", TURN), 0), InvalidOperation, {}), (("drop a", "x"), UnknownName, {"name": "a"}),
                (("x", "drop a"), InvalidCommand, {}), (("new a\nx",), ParseError, {"line": 0}), ((None,), InvalidCommand, {}),
                ((new("a", TURN), "open a 401"), InvalidLimit, {}), (((),), InvalidCommand, {}),
                (tuple(new(name, TURN) for name in "abcdefghi"), TooMany, {"limit": 8})):
            check_raises(self, error, kept, Shell.replayed, script)


class Texts(unittest.TestCase):
    def test_str_len_and_in(self):
        shell = Shell()
        for number, name in enumerate(EIGHT):
            self.assertEqual((len(shell), str(shell)), (number, f"shell with {number} programs"))
            self.assertIs(name in shell, False)
            shell(new(name, TURN))
            self.assertIs(name in shell, True)
        for value in [value for value in VALUES if value != "a"]:
            self.assertIs(value in shell, False)

    def test_equal(self):
        one, other = made(a=TURN, b=DOWN), made(b=DOWN)
        self.assertEqual([one == other, one != other, Shell() == Shell(), Shell() != Shell()], [False, True, True, False])
        other("copy b a")
        self.assertIs(one == other, False)
        other("drop a")
        other(new("a", TURN))
        # Only the programs count, not how they came.
        self.assertIs(one == other, True)
        self.assertIs(one != other, False)
        other("start a 1")
        self.assertIs(one == other, False)
        for value in [*VALUES, TURN, "shell with 0 programs", {}, LONG]:
            self.assertIs(Shell() == value, False)
            self.assertIs(Shell() != value, True)
            self.assertIs(value == Shell(), False)


if __name__ == "__main__":
    unittest.main()
