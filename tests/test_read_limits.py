"""Stage 2: the reading of the texts of sets of limits."""

import unittest

from deepenough.base.limits import Limits, read_limits
from deepenough.errors import InvalidLimits

from helper import LONG, VALUES, check_raises

RIGHT = {
    "none": Limits.none(),
    "0+1k": Limits.every(),
    "0": Limits.only((0,)),
    "1, 3": Limits.only((1, 3)),
    "1999": Limits.only((1999,)),
    "2000+1k": Limits.since(2000),
    "1+2k": Limits((), 0, 2, (1,)),
    "0, 2, 3+3k, 4+3k": Limits((0, 2), 3, 3, (0, 1)),
    "3+6k, 7+6k": Limits((), 0, 6, (1, 3)) - Limits.only((1,)),
    "0, 7+3k": Limits((0,), 5, 3, (1,)),
    "3999+2000k": Limits((), 2000, 2000, (1999,)),
    "2000+2000k, 3999+2000k": Limits((), 2000, 2000, (0, 1999)),
    "1999, 2000+1999k": Limits((1999,), 2000, 1999, (1,)),
    "0, 2, 3+3k": Limits((0, 2), 3, 3, (0,)),
    "1, 2+2k": Limits((1, 2), 3, 2, (0,)),
    "2001+2k": Limits((), 2000, 2, (1,)),
}

# Words between bars; "/" stands for the end of a line.
NEAR = """
|0+1k |, 0+1k|0+1k,|0+1k, | 0+1k|0 +1k|0+ 1k|0+1 k|0+1|0+k|+1k|+k|k|+|0+1K|0+1kk|0+1k+1k|0+-1k|-1+1k|-0+1k|1k|0+0k|1+0k|
|00+1k|0+01k|01|00|0,1|0,  1|0 1|0, 1,|,|, |0, , 1|1, 0|0, 0|1, 1|3, 1|None|NONE|none |none, 0|0, none|n|null|()|[]|{}|
|1+1k, 0+1k|0, 1+1k|1, 2+1k|0, 2+2k|1, 3+2k|1+2k, 2+2k|0+2k, 1+2k|0+2k, 1+3k|1+2k, 3+2k|0+2k, 0+2k|1+2k, 0|4+2k, 5|(0,)|
|4+3k, 3+3k|0, 2, 4+3k, 3+3k|0, 2, 3+3k, 4+6k|0, 2, 3+6k, 4+3k|0, 2, 3+3k, 4+4k|2, 0, 3+3k, 4+3k|0, 2, 3+3k, 5+3k|1+2k, 0+2k|
|2, 2+2k|3, 2+2k|6, 2+2k|0, 1, 2, 4+3k, 7+3k|2+3k, 5+3k|0+4k, 2+4k|0+6k, 1+6k, 3+6k, 4+6k|5+1k, 6|5, 6+1k|1+2k, 4+2k, 7+2k|
|2000|0, 2000|2001+1k|2002+2k|4000+2000k|4001+2000k|0+2001k|2000+2001k|1999+2001k|1999, 2001+1k|0, 2002+2k|1+4k, 3+4k|
|9999|10000|99999+1k|0+9999k|0+10000k|1_0|1_0+2k|+1|-1|+1+2k|1.0|1e3|0x1|0+1k/|/0+1k|0,/1|none/|/none|/|0+2k; 1|0+1m|k+1|
|1+k2|1+2k3|1++2k|1+2+3k|3999+2000k, 4000+2000k|1+2k, 4+2k|
"""


class Reading(unittest.TestCase):
    def test_right_texts(self):
        for text, limits in RIGHT.items():
            self.assertEqual(str(limits), text)
            found = read_limits(text)
            self.assertIsInstance(found, Limits)
            self.assertEqual(found, limits)
            self.assertEqual(str(found), text)

    def test_texts_near_right_ones(self):
        near = [text.replace("/", "\n") for text in NEAR.replace("\n", "").split("|")]
        self.assertIn("", near)
        self.assertEqual([text for text in near if text in RIGHT], [])
        for text in near:
            check_raises(self, InvalidLimits, {}, read_limits, text)

    def test_one_sign_less_or_more(self):
        for text, limits in RIGHT.items():
            changed = [text[:at] + sign + text[at + cut:] for at in range(len(text) + 1) for cut in (0, 1)
                       for sign in ("", " ", ",", "+", "k", "0", "1", "9", "\n", "-")]
            for other in changed:
                try:
                    found = read_limits(other)
                except InvalidLimits:
                    continue
                # What can be read is the str of what it tells, and tells no other text's set.
                self.assertEqual(str(found), other)
                self.assertIs(found == limits, other == text)

    def test_numbers_that_are_too_long(self):
        for number in (str(LONG), "9" * 5000, "0" * 5000 + "1", "1" + "0" * 4400):
            for text in (number, f"{number}+2k", f"0+{number}k", f"0, {number}"):
                check_raises(self, InvalidLimits, {}, read_limits, text)

    def test_greatest_sets(self):
        for limits in (Limits.only(tuple(range(2000))), Limits(tuple(range(0, 2000, 3)), 2000, 2000, (5, 1999)),
                       Limits((), 2000, 1999, tuple(range(0, 1999, 2))), ~Limits.only((1999,))):
            self.assertEqual(read_limits(str(limits)), limits)

    def test_what_is_no_text(self):
        wrong = [value for value in VALUES if not isinstance(value, str)]
        for value in (*wrong, ("none",), ["none"], {"none": 1}, ("0+1k",)):
            check_raises(self, InvalidLimits, {}, read_limits, value)

    def test_other_strings(self):
        for value in [value for value in VALUES if isinstance(value, str) and value != "0"]:
            check_raises(self, InvalidLimits, {}, read_limits, value)

    def test_it_is_defined_in_its_file(self):
        self.assertEqual(read_limits.__module__, "deepenough.base.limits")


if __name__ == "__main__":
    unittest.main()
