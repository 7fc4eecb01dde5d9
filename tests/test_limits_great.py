"""Stage 2: great sets of limits, with the right members at all numbers, and quick answers."""

import random
import time
import unittest
from math import lcm

from deepenough.base.limits import Limits, read_limits

BOUND = 6000


def some_numbers(chance, bound, share):
    return tuple(number for number in range(bound) if chance.random() < share)


def some_set(chance, first, period, share):
    few, rests = some_numbers(chance, first, share), some_numbers(chance, period, share)
    return Limits(few, first, period, rests), members_of(few, first, period, rests)


def members_of(few, first, period, rests):
    held = set(rests)
    return {*few, *[number for number in range(first, BOUND) if number % period in held]}


class Great(unittest.TestCase):
    def check(self, limits, members):
        self.assertEqual([number for number in range(BOUND) if number in limits], sorted(members))

    def check_all(self, limits, members):
        self.check(limits, members)
        early = tuple(number for number in sorted(members) if number < limits.first)
        self.assertEqual(limits.few, early)
        self.assertEqual([number for number in limits.members(1000) if number < BOUND], sorted(members)[:1000])
        self.assertEqual(limits.least, min(members, default=None))
        self.assertIs(bool(limits), bool(members))
        for number in (0, 1, 1500, 1999, 2000, 2001, 3999, 4000):
            self.assertEqual(limits.count(number), len([one for one in members if one < number]))
            if number < 4000 and not limits.is_finite:
                self.assertEqual(limits.following(number), min(one for one in members if one >= number))
        self.assertEqual(read_limits(str(limits)), limits)
        self.assertEqual(Limits(limits.few, limits.first, limits.period, limits.rests), limits)

    def test_operators_with_first_2000_and_period_2000(self):
        chance = random.Random(1)
        for share, other_share in ((0.5, 0.5), (0.02, 0.9), (0.98, 0.01)):
            one, first = some_set(chance, 2000, 2000, share)
            other, second = some_set(chance, 2000, 2000, other_share)
            self.assertGreater(min(one.first, other.first), 1000)
            self.assertEqual((one.period, other.period), (2000, 2000))
            self.check(one, first)
            self.check(other, second)
            self.check_all(one & other, first & second)
            self.check_all(one | other, first | second)
            self.check_all(one - other, first - second)
            self.check_all(one ^ other, first ^ second)
            self.check_all(~one, set(range(BOUND)) - first)
            self.assertIs(one.is_within(other), first <= second)
            self.assertIs((one & other).is_within(other), True)
            self.assertEqual(~~one, one)
            for number in (-2000, -1999, -1, 0, 2000 - one.first):
                self.assertEqual([value for value in range(BOUND - 2000) if value in one.moved(number)],
                                 sorted(value + number for value in first if 0 <= value + number < BOUND - 2000))

    def test_sets_of_unlike_first_and_period(self):
        chance = random.Random(2)
        pairs = ((1, 2000), (8, 1000), (16, 125), (2000, 1), (400, 250), (47, 1), (53, 53), (1999, 1999), (1, 1999),
                 (94, 47), (1961, 1961), (43, 43), (37, 41), (1849, 43), (31, 62), (1024, 512), (1, 1), (60, 12))
        for period, other_period in pairs:
            self.assertLessEqual(lcm(period, other_period), 2000)
            one, first = some_set(chance, chance.randint(0, 2000), period, 0.4)
            other, second = some_set(chance, chance.randint(0, 90), other_period, 0.6)
            self.check(one & other, first & second)
            self.check(one | other, first | second)
            self.check(one - other, first - second)
            self.check(other - one, second - first)
            self.check(one ^ other, first ^ second)
            self.assertIs(one.is_within(other), first <= second)
            self.check_all(one | other, first | second)

    def test_least_periods(self):
        chance = random.Random(3)
        for period in (1, 2, 9, 16, 25, 43, 47, 49, 53, 94, 97, 101, 211, 499, 997, 1000, 1849, 1999, 2000):
            rests = ()
            while period > 1 and not 0 < len(rests) < period or period == 1 and rests != (0,):
                rests = (0,) if period == 1 else some_numbers(chance, period, 0.3)
            for times in range(1, 2000 // period + 1):
                if times in (1, 2, 3, 4, 7, 47, 2000 // period):
                    repeated = tuple(rest + period * again for again in range(times) for rest in rests)
                    limits = Limits((), 0, period * times, repeated)
                    self.assertEqual(limits, Limits((), 0, period, rests))
                    self.assertEqual(period % limits.period, 0)
                    self.check(limits, members_of((), 0, period, rests))
        for prime in (2, 3, 5, 7, 11, 13, 17, 19, 23, 29, 31, 37, 41, 43):
            repeated = tuple(range(1, prime * prime, prime))
            self.assertEqual(Limits((), 0, prime * prime, repeated).period, prime)
            self.assertEqual(Limits((), 0, prime * prime, repeated[1:]).period, prime * prime)
        for prime in (2, 43, 47, 1009, 1999):
            self.assertEqual(Limits((), 0, prime, (prime - 1,)).period, prime)
            self.assertEqual(Limits((), 0, prime, tuple(range(prime))).period, 1)
            self.assertEqual(Limits((), 0, prime, ()).period, 1)

    def test_dense_and_sparse_sets(self):
        for few in (tuple(range(2000)), tuple(range(0, 2000, 2)), tuple(range(1, 2000, 9)), (0, 1999), (1999,), (0,), ()):
            limits = Limits.only(few)
            self.assertEqual(limits.few, few)
            self.assertEqual(limits.members(1000), few[:1000])
            self.assertEqual(limits.count(10 ** 39), len(few))
            self.assertEqual((~limits).count(10 ** 39), 10 ** 39 - len(few))
            self.assertEqual((~limits).few, tuple(number for number in range((~limits).first) if number not in few))


class Quick(unittest.TestCase):
    def test_great_sets_answer_quickly(self):
        late, later, big = Limits.since(1499), Limits.since(2000), Limits((5,), 1999, 2000, (7, 1999))
        calls = (lambda: late.is_within(later), lambda: late - later, lambda: big & late, lambda: ~big,
                 lambda: late.following(0), lambda: bool(late), lambda: late.least, lambda: late.moved(3))
        # Each answer takes some microseconds. If it went number by number, all of them would take many seconds.
        for call in calls:
            begin = time.process_time()
            for _ in range(2000):
                call()
            self.assertLess(time.process_time() - begin, 0.5)


if __name__ == "__main__":
    unittest.main()
