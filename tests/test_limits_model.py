"""Stage 2: all small sets of limits, compared with what they have below a bound."""

import unittest
from itertools import combinations, product

from deepenough.base.limits import Limits, read_limits

# Below this bound each of the small sets, and what is made of two of them, has come round often enough.
BOUND = 80


def subsets(size):
    return [chosen for many in range(size + 1) for chosen in combinations(range(size), many)]


def told_sets(first_bound, period_bound):
    """All arguments of Limits up to these bounds, each with its members below BOUND."""
    for first, period in product(range(first_bound + 1), range(1, period_bound + 1)):
        for few, rests in product(subsets(first), subsets(period)):
            late = [number for number in range(first, BOUND) if number % period in rests]
            yield Limits(few, first, period, rests), (*few, *late)


def least_telling(members):
    """Few, first, period and rests by [2.1], found by trying them all."""
    held = set(members)
    for period, first in product(range(1, 13), range(16)):
        if all((number in held) == (number + period in held) for number in range(first, BOUND - period)):
            few = tuple(number for number in members if number < first)
            rests = tuple(rest for rest in range(period) if (rest + first * period) in held)
            return few, first, period, rests
    raise AssertionError("too great for the model")


def text_of(few, first, period, rests):
    starts = [next(number for number in range(first, first + period) if number % period == rest) for rest in rests]
    return ", ".join([str(one) for one in few] + [f"{one}+{period}k" for one in sorted(starts)]) or "none"


SINGLE = list(told_sets(4, 4))
PAIRED = list({members: (limits, members) for limits, members in told_sets(2, 3)}.values())


class OneSet(unittest.TestCase):
    def test_how_it_is_told(self):
        for limits, members in SINGLE:
            few, first, period, rests = least_telling(members)
            self.assertEqual((limits.few, limits.first, limits.period, limits.rests), (few, first, period, rests))
            self.assertEqual(str(limits), text_of(few, first, period, rests))
            self.assertEqual(read_limits(str(limits)), limits)

    def test_what_it_has(self):
        for limits, members in SINGLE:
            self.assertEqual([number for number in range(BOUND) if number in limits], list(members))
            self.assertEqual(limits.members(5), members[:5])
            self.assertEqual(limits.least, members[0] if members else None)
            self.assertEqual(limits.is_finite, not members or members[-1] < 10)
            self.assertEqual(bool(limits), bool(members))
            for number in range(12):
                self.assertEqual(limits.count(number), len([one for one in members if one < number]))
                self.assertEqual(limits.following(number), min([one for one in members if one >= number], default=None))

    def test_moved(self):
        for limits, members in SINGLE:
            for number in (-9, -4, -3, -2, -1, 0, 1, 2, 3, 7):
                moved = [one + number for one in members if 0 <= one + number < 60]
                self.assertEqual([one for one in range(60) if one in limits.moved(number)], moved)
            self.assertEqual(limits.moved(5).moved(-5), limits)

    def test_all_others(self):
        for limits, members in SINGLE:
            held = set(members)
            self.assertEqual([one for one in range(BOUND) if one in ~limits], sorted(set(range(BOUND)) - held))
            self.assertEqual(~~limits, limits)


class TwoSets(unittest.TestCase):
    def check(self, made, members):
        few, first, period, rests = least_telling(tuple(sorted(members)))
        self.assertEqual((made.few, made.first, made.period, made.rests), (few, first, period, rests))

    def test_operators(self):
        for (one, first), (other, second) in product(PAIRED, PAIRED):
            here, there = set(first), set(second)
            self.check(one & other, here & there)
            self.check(one | other, here | there)
            self.check(one - other, here - there)
            self.check(one ^ other, here ^ there)
            self.assertIs(one.is_within(other), here <= there)
            self.assertIs(one == other, here == there)
            self.assertIs(one != other, here != there)


if __name__ == "__main__":
    unittest.main()
