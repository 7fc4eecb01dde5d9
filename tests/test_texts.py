"""[4.1] and stage 4: the texts of programs."""

import unittest

from deepenough.base.programs import Procedure, Program
from deepenough.errors import InvalidProgram, ParseError
from deepenough.text.texts import read_program, write_program

from helper import DOWN, NO_PROGRAMS, TURN, VALUES, check_raises, raised, some_programs

WHOLE = Program(2, (0, 1), Procedure("p", 2, ("go", 0, 1, ((0, 0), (0, 1), (1, 0))), ("call", 0, 1, "p", (0, 1), 1),
                                     ("call", 0, 1, "p", (1,), None), ("leave", 1, (0, 1)), ("fail", 0, (1,))))
TEXT = """modes 2 starts 0 1
procedure p 2
  go 0 1 by 00 01 10
  call 0 1 p in 0 1 caught 1
  call 0 1 p in 1
  leave 1 in 0 1
  fail 0 in 1"""

WORDS = Program(1, (0,), Procedure("in", 1, ("call", 0, 0, "caught", (0,), 0), ("call", 0, 0, "in", (0,), None)),
                Procedure("caught", 1, ("call", 0, 0, "by", (0,), None)), Procedure("by", 1), Procedure("modes", 8),
                Procedure("go", 1, ("call", 0, 0, "starts", (0,), 0)), Procedure("starts", 1))
WORDS_TEXT = """modes 1 starts 0
procedure in 1
  call 0 0 caught in 0 caught 0
  call 0 0 in in 0
procedure caught 1
  call 0 0 by in 0
procedure by 1
procedure modes 8
procedure go 1
  call 0 0 starts in 0 caught 0
procedure starts 1"""

# Lines that have none of the forms; "_" stands for a blank.
NO_LINES = """
| |_|__|modes|modes_2|modes_2_starts|modes_2_starts_|modes__2_starts_0|_modes_2_starts_0|modes_2_starts_0_|modes_2_starts_00
|modes_12_starts_0|modes_a_starts_0|modes_2_start_0|Modes_2_starts_0|modes_2_starts_0,1|modes_-1_starts_0|modes_2_starts_0__1
|modes_2_starts_-1|modes_2_starts_a|procedure|procedure_p|procedure_p_|procedure_p_10|procedure_p_2_|_procedure_p_2|procedure__p_2
|procedure_P_2|procedure_abcdefghi_2|procedure_2|procedure_p_a|procedure_p_2_2|procedure_p1_2|proc_p_2|procedure__2|__procedure_p_2
|go_0_1_by_00|_go_0_1_by_00|___go_0_1_by_00|__go_0_1_by|__go_0_1_by_|__go_0_1_by_0|__go_0_1_by_000|__go_0_1_by_0_0|__go_0_1_00
|__go_0_by_00|__go_0_1_by_00_|__go_0_1_by__00|__go_0_1_in_00|__go_00_1_by_00|__go_a_1_by_00|__go_0_1_by_0a|__go_0_1_by_00,01
|__call_0_1_p|__call_0_1_p_in|__call_0_1_p_in_|__call_0_1_p_in_caught_1|__call_0_1_p_in_0_caught|__call_0_1_p_in_0_caught_
|__call_0_1_p_in_0_caught_10|__call_0_1_p_in_0_caught_1_|__call_0_1_p_in_0_caught_1_1|__call_0_1_p_in_0_caught_None
|__call_0_1_P_in_0|__call_0_1_in_0|__call_0_1_p_by_0|__call_0_p_in_0|__call_0_1_1_in_0|__call_0_1_p_in_00|__call_0_1_p_in_0__1
|__call_0_1_p_in_0_caught__1|__call_0_1_abcdefghi_in_0|call_0_1_p_in_0|__call_0_10_p_in_0|__call_0_1_p_in_0_1_caught_1_0
|__leave_0|__leave_0_in|__leave_0_in_|__leave_0_in_00|__leave_0_in_0_|__leave_0_by_0|__leave_in_0|__leave_a_in_0|__leave_0_1_in_0
|leave_0_in_0|__fail_0|__fail_0_in|__fail_0_in_0__1|__fail_0_in_a|__Fail_0_in_0|fail_0_in_0|__skip_0_in_0|__0_in_0|__leave_0_in_0_caught_0
"""


def lines_of(text):
    return [line.replace("_", " ") for line in text.replace("\n", "").split("|")]


def first_wrong(text):
    """The line at which reading ends, or None."""
    error = raised(read_program, text)
    return error.line if isinstance(error, ParseError) else None


class Writing(unittest.TestCase):
    def test_texts(self):
        self.assertEqual(write_program(WHOLE), TEXT)
        self.assertEqual(write_program(WORDS), WORDS_TEXT)
        self.assertEqual(write_program(Program(1, (0,), Procedure("p", 1))), "modes 1 starts 0\nprocedure p 1")
        self.assertEqual(write_program(TURN), "modes 2 starts 0\nprocedure p 3\n  call 0 1 p in 0 1 caught 1\n"
                                              "  go 1 2 by 01 10\n  leave 2 in 0 1")

    def test_no_programs(self):
        for value in [*NO_PROGRAMS, TEXT, WHOLE["p"], (WHOLE,)]:
            check_raises(self, InvalidProgram, {}, write_program, value)

    def test_each_is_defined_in_its_file(self):
        for call in (read_program, write_program):
            self.assertEqual(call.__module__, "deepenough.text.texts")


class Reading(unittest.TestCase):
    def test_texts(self):
        for program, text in ((WHOLE, TEXT), (WORDS, WORDS_TEXT)):
            found = read_program(text)
            self.assertIsInstance(found, Program)
            self.assertEqual(found, program)
            self.assertEqual(write_program(found), text)

    def test_what_is_written_is_read(self):
        for program in [TURN, DOWN, *some_programs(4, 60, procedures=6, points=8, moves=16, modes=6)]:
            text = write_program(program)
            self.assertEqual(read_program(text), program)
            for line in text.split("\n"):
                self.assertEqual(line, line.rstrip(" "))

    def test_no_strings(self):
        for value in [*[value for value in VALUES if not isinstance(value, str)], (TEXT,), [TEXT], TEXT.split("\n")]:
            check_raises(self, InvalidProgram, {}, read_program, value)

    def test_other_strings(self):
        for value in [value for value in VALUES if isinstance(value, str)]:
            check_raises(self, ParseError, {"line": 0}, read_program, value)

    def test_lines_without_a_form(self):
        rows = TEXT.split("\n")
        wrong = lines_of(NO_LINES)
        self.assertGreater(len(wrong), 90)
        for line in wrong:
            for at in range(len(rows) + 1):
                text = "\n".join([*rows[:at], line, *rows[at:]])
                check_raises(self, ParseError, {"line": at}, read_program, text)
            for at in range(len(rows)):
                text = "\n".join([*rows[:at], line, *rows[at + 1:]])
                check_raises(self, ParseError, {"line": at}, read_program, text)

    def test_the_first_wrong_line_is_told(self):
        rows = TEXT.split("\n")
        for first in range(len(rows)):
            for second in range(first, len(rows)):
                wrong = list(rows)
                wrong[first] = wrong[second] = "  go"
                check_raises(self, ParseError, {"line": first}, read_program, "\n".join(wrong))

    def test_a_line_left_out(self):
        rows = TEXT.split("\n")
        self.assertEqual([first_wrong("\n".join([*rows[:at], *rows[at + 1:]])) for at in range(len(rows))],
                         [0, 1, None, None, None, None, None])

    def test_a_line_doubled(self):
        rows = TEXT.split("\n")
        self.assertEqual([first_wrong("\n".join([*rows[:at], rows[at], *rows[at:]])) for at in range(len(rows))],
                         [1, None, None, None, None, None, None])
        check_raises(self, InvalidProgram, {}, read_program, "\n".join([*rows[:2], *rows[1:]]))

    def test_a_line_moved(self):
        head, first, *moves = TEXT.split("\n")
        for text, line in (("\n".join([first, head, *moves]), 0), ("\n".join([head, moves[0], first]), 1),
                           ("\n".join([moves[0], head, first]), 0), ("\n".join([head, first, head]), 2),
                           ("\n".join([head, first, *moves, head]), 7), (first, 0), (moves[0], 0),
                           ("\n".join([head, head]), 1), ("\n".join([head, moves[3], moves[4]]), 1)):
            check_raises(self, ParseError, {"line": line}, read_program, text)

    def test_ends_of_the_text(self):
        many = len(TEXT.split("\n"))
        check_raises(self, ParseError, {"line": many}, read_program, TEXT + "\n")
        check_raises(self, ParseError, {"line": 0}, read_program, "\n" + TEXT)
        check_raises(self, ParseError, {"line": 0}, read_program, "")
        check_raises(self, ParseError, {"line": 1}, read_program, TEXT.replace("\n", "\n\n", 1))
        check_raises(self, ParseError, {"line": many - 1}, read_program, TEXT + " ")

    def test_a_blank_more_or_less(self):
        for at, sign in enumerate(TEXT):
            line = TEXT[:at].count("\n")
            if sign == " ":
                check_raises(self, ParseError, {"line": line}, read_program, TEXT[:at] + " " + TEXT[at:])
                check_raises(self, ParseError, {"line": line}, read_program, TEXT[:at] + TEXT[at + 1:])

    def test_lines_with_their_form_that_tell_no_program(self):
        changes = [("modes 2", "modes 0"), ("modes 2", "modes 7"), ("modes 2", "modes 1"), ("starts 0 1", "starts 1 0"),
                   ("starts 0 1", "starts 0 2"), ("starts 0 1", "starts 0 0"), ("procedure p 2", "procedure p 0"),
                   ("procedure p 2", "procedure p 9"), ("procedure p 2", "procedure p 1"),
                   ("procedure p 2", "procedure q 2"), ("00 01 10", "01 00 10"), ("00 01 10", "00 00 10"),
                   ("00 01 10", "02"), ("go 0 1", "go 0 2"), ("call 0 1 p", "call 0 1 q"), ("caught 1", "caught 9"),
                   ("p in 1", "p in 2"), ("leave 1", "leave 2"), ("in 0 1\n  fail", "in 1 0\n  fail"),
                   ("fail 0", "fail 9")]
        for elder, newer in changes:
            self.assertIn(elder, TEXT)
            check_raises(self, InvalidProgram, {}, read_program, TEXT.replace(elder, newer))
        check_raises(self, InvalidProgram, {}, read_program, "modes 2 starts 0")
        check_raises(self, InvalidProgram, {}, read_program, TEXT + "\n  leave 0 in 0" * 12)
        self.assertEqual(len(read_program(TEXT + "\n  leave 0 in 0" * 11)["p"]), 16)
        many = "".join(f"\nprocedure {name} 1" for name in "abcdef")
        check_raises(self, InvalidProgram, {}, read_program, TEXT + many)
        self.assertEqual(len(read_program("modes 1 starts 0" + many)), 6)

    def test_a_wrong_line_comes_ahead_of_a_wrong_program(self):
        check_raises(self, ParseError, {"line": 2}, read_program, "modes 9 starts 9\nprocedure p 0\n  go")
        check_raises(self, ParseError, {"line": 3}, read_program, "modes 0 starts 0\nprocedure p 0\nprocedure p 0\n")


if __name__ == "__main__":
    unittest.main()
