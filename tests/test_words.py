"""[0.5], [0.7] and stage 1: names and limits."""

import unittest

from deepenough.base.words import is_limit, is_name

from helper import LARGE, LONG, NEGATIVE, NO_INTEGERS, SMALL, VALUES


class Names(unittest.TestCase):
    def test_one_to_eight_letters(self):
        for value in ("a", "z", "p", "main", "abcdefgh", "ijklmnop", "qrstuvwx", "yz", "zzzzzzzz"):
            self.assertIs(is_name(value), True, value)

    def test_too_short_or_too_long(self):
        for value in ("", "abcdefghi", "a" * 9, "a" * 5000):
            self.assertIs(is_name(value), False, value)

    def test_every_other_sign_is_none(self):
        signs = [chr(code) for code in (10, *range(32, 127)) if not 97 <= code <= 122]
        self.assertEqual(len(signs), 70)
        for sign in signs:
            for value in (sign, "a" + sign, sign + "a", "ab" + sign + "cd"):
                self.assertIs(is_name(value), False, value)

    def test_other_values(self):
        for value in VALUES:
            expected = value in ("a", "main") if isinstance(value, str) else False
            self.assertIs(is_name(value), expected, value)

    def test_names_in_holders_are_none(self):
        for value in (("a",), ["a"], {"a": 1}, {"a": "a"}):
            self.assertIs(is_name(value), False)


class ALimit(unittest.TestCase):
    def test_integers_from_0_on(self):
        for value in (*SMALL, *LARGE, 399, 400, 401, 10 ** 39, LONG):
            self.assertIs(is_limit(value), True, value)

    def test_none_is_a_limit(self):
        self.assertIs(is_limit(None), True)

    def test_negative_integers_are_none(self):
        for value in NEGATIVE:
            self.assertIs(is_limit(value), False, value)

    def test_booleans_are_none(self):
        self.assertIs(is_limit(True), False)
        self.assertIs(is_limit(False), False)

    def test_other_values(self):
        for value in NO_INTEGERS:
            self.assertIs(is_limit(value), value is None, value)


class Arguments(unittest.TestCase):
    def test_nothing_is_changed(self):
        for call in (is_name, is_limit):
            held, table = [1, ["a"]], {"a": [1]}
            call(held)
            call(table)
            self.assertEqual((held, table), ([1, ["a"]], {"a": [1]}))

    def test_each_is_defined_in_its_file(self):
        for call in (is_name, is_limit):
            self.assertEqual(call.__module__, "deepenough.base.words")


if __name__ == "__main__":
    unittest.main()
