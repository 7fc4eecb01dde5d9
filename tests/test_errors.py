"""[1.1]: the errors."""

import unittest

from deepenough import errors

from helper import VALUES

WITH_MESSAGE = ("InvalidProgram", "InvalidRun", "InvalidLimit", "InvalidLimits", "InvalidModes", "InvalidRow",
                "InvalidSign", "InvalidOperation", "InvalidCommand")
KEEPING = {
    "ParseError": (errors.DepthError, "line"),
    "UnknownName": (KeyError, "name"),
    "UnknownSite": (KeyError, "site"),
    "InvalidNumber": (IndexError, "value"),
    "NothingToUndo": (LookupError, "many"),
    "Refused": (ArithmeticError, "name"),
    "TooMany": (OverflowError, "limit"),
}


class Derivation(unittest.TestCase):
    def test_depth_error_is_directly_a_value_error(self):
        self.assertEqual(errors.DepthError.__bases__, (ValueError,))

    def test_errors_with_a_message_are_directly_depth_errors(self):
        for name in WITH_MESSAGE:
            self.assertEqual(getattr(errors, name).__bases__, (errors.DepthError,), name)

    def test_keeping_errors_are_directly_derived_from_what_is_told(self):
        for name, (base, _) in KEEPING.items():
            self.assertEqual(getattr(errors, name).__bases__, (base,), name)

    def test_only_parse_error_of_the_keeping_ones_is_a_depth_error(self):
        found = [name for name in KEEPING if issubclass(getattr(errors, name), errors.DepthError)]
        self.assertEqual(found, ["ParseError"])

    def test_no_error_is_derived_from_another_one(self):
        classes = [getattr(errors, name) for name in (*WITH_MESSAGE, *KEEPING)]
        for one in classes:
            self.assertEqual([other for other in classes if issubclass(one, other)], [one])

    def test_each_is_defined_in_its_file(self):
        for name in ("DepthError", *WITH_MESSAGE, *KEEPING):
            self.assertEqual(getattr(errors, name).__module__, "deepenough.errors")
            self.assertEqual(getattr(errors, name).__name__, name)


class WhatIsTaken(unittest.TestCase):
    def test_a_message(self):
        for name in ("DepthError", *WITH_MESSAGE):
            with self.assertRaises(getattr(errors, name)) as caught:
                raise getattr(errors, name)("what is wrong")
            self.assertIsInstance(caught.exception, ValueError)

    def test_what_is_kept(self):
        for name, (_, attribute) in KEEPING.items():
            for value in VALUES:
                error = getattr(errors, name)(value)
                self.assertIs(getattr(error, attribute), value)
                self.assertEqual(list(vars(error)), [attribute])

    def test_what_is_kept_is_there_when_it_is_caught(self):
        for name, (base, attribute) in KEEPING.items():
            with self.assertRaises(base) as caught:
                raise getattr(errors, name)(("p", 3))
            self.assertEqual(getattr(caught.exception, attribute), ("p", 3))

    def test_just_one_value_is_taken(self):
        for name in KEEPING:
            self.assertRaises(TypeError, getattr(errors, name))
            self.assertRaises(TypeError, getattr(errors, name), 1, 2)


if __name__ == "__main__":
    unittest.main()
