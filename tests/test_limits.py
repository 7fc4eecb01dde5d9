"""[2.1] and stage 2: the class Limits, by examples, edges and wrong inputs."""

import inspect
import unittest

from deepenough.base.limits import Limits
from deepenough.errors import InvalidLimits, InvalidNumber, TooMany

from helper import (LARGE, LONG, NEGATIVE, NO_INTEGERS, NO_TUPLES, VALUES, check_examples, check_raises,
                    raised)

EXAMPLES = """
>>> odd, some = Limits((), 0, 2, (1,)), Limits((0, 2, 3, 4), 5, 6, (0, 1, 3, 4))
>>> [(some.few, some.first, some.period, some.rests), str(some), str(odd & some), str(~odd), str(odd - Limits.since(4)), str(Limits.none())]
[((0, 2), 3, 3, (0, 1)), '0, 2, 3+3k, 4+3k', '3+6k, 7+6k', '0+2k', '1, 3', 'none']
>>> [some.least, some.following(5), some.count(10 ** 20), some.members(5), str(odd.moved(-2)), str(odd.moved(2)), odd.is_within(some), 10 ** 30 + 1 in odd]
[0, 6, 66666666666666666667, (0, 2, 3, 4, 6), '1+2k', '3+2k', False, True]
"""

ODD = Limits((), 0, 2, (1,))
EVEN = Limits((), 0, 2, (0,))
SOME = Limits((0, 2, 3, 4), 5, 6, (0, 1, 3, 4))
EVERY = Limits.every()
NONE = Limits.none()
FEW = Limits.only((0, 3, 1999))

OPERATORS = {
    "and": lambda one, other: one & other,
    "or": lambda one, other: one | other,
    "minus": lambda one, other: one - other,
    "xor": lambda one, other: one ^ other,
    "within": lambda one, other: one.is_within(other),
}


def told(limits):
    return (limits.few, limits.first, limits.period, limits.rests)


class Examples(unittest.TestCase):
    def test_examples_of_the_document(self):
        check_examples(self, EXAMPLES, {"Limits": Limits})


class Interface(unittest.TestCase):
    def test_all_is_defined_in_the_class_itself(self):
        names = ("few first period rests every none since only is_within least is_finite following count members "
                 "moved __init__ __and__ __or__ __sub__ __xor__ __invert__ __contains__ __eq__ __bool__ __str__")
        for name in names.split():
            self.assertIn(name, vars(Limits))
        self.assertEqual(Limits.__module__, "deepenough.base.limits")

    def test_names_of_the_parameters(self):
        self.assertEqual(list(inspect.signature(Limits).parameters), ["few", "first", "period", "rests"])

    def test_properties_are_read_without_a_call(self):
        self.assertEqual((SOME.least, SOME.is_finite), (0, False))

    def test_a_set_never_changes(self):
        for name, value in (("few", (1,)), ("first", 9), ("period", 3), ("rests", (0,)), ("least", 1),
                            ("is_finite", True)):
            self.assertIs(type(raised(setattr, SOME, name, value)), AttributeError)
        self.assertEqual(told(SOME), ((0, 2), 3, 3, (0, 1)))

    def test_operators_leave_both_as_they_are(self):
        one, other = Limits((0, 2), 4, 3, (1,)), Limits((1,), 2, 4, (0, 3))
        before = (told(one), told(other))
        for call in OPERATORS.values():
            call(one, other)
        (~one, one.moved(7), one.moved(-7), one.members(9), one.count(9), one.following(9), str(one), bool(one))
        self.assertEqual((told(one), told(other)), before)

    def test_in_place_signs_give_another_set(self):
        one = kept = Limits.only((1, 2))
        one |= Limits.only((5,))
        one -= Limits.only((1,))
        self.assertEqual((str(one), str(kept)), ("2, 5", "1, 2"))

    def test_it_cannot_be_iterated_over(self):
        for limits in (SOME, NONE, FEW):
            for call in (iter, list, tuple, sorted, sum, max, lambda many: [*many]):
                self.assertIs(type(raised(call, limits)), TypeError)

    def test_sequences_are_tuples(self):
        for limits in (SOME, NONE, EVERY, FEW, ~FEW):
            for value in (limits.few, limits.rests, limits.members(0), limits.members(5)):
                self.assertIs(type(value), tuple)


class HowItIsTold(unittest.TestCase):
    def check(self, given, few, first, period, rests):
        self.assertEqual(told(Limits(*given)), (few, first, period, rests), given)

    def test_least_period(self):
        self.check(((), 0, 6, (1, 3, 5)), (), 0, 2, (1,))
        self.check(((), 0, 6, (0, 1, 3, 4)), (), 0, 3, (0, 1))
        self.check(((), 0, 12, (1, 5, 9)), (), 0, 4, (1,))
        self.check(((), 0, 4, (0, 1, 2, 3)), (), 0, 1, (0,))
        self.check(((), 0, 6, (0, 1, 2)), (), 0, 6, (0, 1, 2))
        self.check(((), 0, 2000, tuple(range(3, 2000, 5))), (), 0, 5, (3,))

    def test_least_first(self):
        self.check(((1, 3, 5), 6, 2, (1,)), (), 0, 2, (1,))
        self.check(((1, 3), 6, 2, (1,)), (1, 3), 6, 2, (1,))
        self.check(((0, 1, 3, 5), 6, 2, (1,)), (0,), 1, 2, (1,))
        self.check(((5,), 7, 3, (2,)), (), 3, 3, (2,))
        self.check((tuple(range(2000)), 2000, 1, (0,)), (), 0, 1, (0,))
        self.check((tuple(range(1, 2000)), 2000, 1, (0,)), (), 1, 1, (0,))

    def test_rests_are_counted_from_0_and_not_from_first(self):
        self.check(((), 5, 3, (0,)), (), 4, 3, (0,))
        self.check(((0,), 5, 3, (1,)), (0,), 5, 3, (1,))
        self.assertEqual(Limits((), 5, 3, (0,)).members(3), (6, 9, 12))

    def test_the_set_without_members(self):
        for given in (((), 0, 1, ()), ((), 2000, 1, ()), ((), 0, 2000, ()), ((), 2000, 2000, ())):
            self.check(given, (), 0, 1, ())

    def test_finite_sets(self):
        self.check(((0,), 1, 1, ()), (0,), 1, 1, ())
        self.check(((0, 4), 2000, 2000, ()), (0, 4), 5, 1, ())
        self.check(((1999,), 2000, 7, ()), (1999,), 2000, 1, ())

    def test_greatest_first_and_period(self):
        self.check(((), 2000, 2000, (1999,)), (), 2000, 2000, (1999,))
        self.check(((0, 1998), 2000, 2000, (0, 1998)), (), 0, 2000, (0, 1998))
        self.check(((1998,), 2000, 1999, (1998,)), (), 0, 1999, (1998,))
        self.check(((1999,), 2000, 1999, (1,)), (1999,), 2000, 1999, (1,))


class WrongArguments(unittest.TestCase):
    def check(self, *given):
        check_raises(self, InvalidLimits, {}, Limits, *given)

    def test_few(self):
        for value in NO_TUPLES:
            self.check(value, 9, 3, (0,))
        for value in ((1, 0), (1, 1), (0, 2, 1), (-1,), (-1, 0), (9,), (0, 9), (LONG,), (True,), (False, 1), (None,),
                      ("0",), ((),), (0, (1,)), (0, None), ([],), ({},), (EVERY,), (0, 1, 2, 2)):
            self.check(value, 9, 3, (0,))
        self.check((0,), 0, 3, (0,))
        self.check((2000,), 2000, 1, ())

    def test_first(self):
        for value in (*NO_INTEGERS, *NEGATIVE, *LARGE):
            self.check((), value, 3, (0,))

    def test_period(self):
        for value in (*NO_INTEGERS, *NEGATIVE, *LARGE, 0):
            self.check((), 9, value, ())

    def test_rests(self):
        for value in NO_TUPLES:
            self.check((0,), 9, 3, value)
        for value in ((1, 0), (1, 1), (0, 2, 1), (-1,), (-1, 0), (3,), (0, 3), (LONG,), (True,), (False, 1), (None,),
                      ("0",), ((),), (0, (1,)), (0, None), ([],), ({},), (EVERY,), (0, 1, 2, 2)):
            self.check((0,), 9, 3, value)

    def test_all_at_once(self):
        self.check(None, None, None, None)
        self.check([], -1, 0, [])

    def test_arguments_are_not_changed(self):
        held, table = [0, 1], {0: 1}
        self.check(held, 9, 3, table)
        self.check(table, 9, 3, held)
        self.assertEqual((held, table), ([0, 1], {0: 1}))


class Makers(unittest.TestCase):
    def test_every_and_none(self):
        self.assertEqual(told(Limits.every()), ((), 0, 1, (0,)))
        self.assertEqual(told(Limits.none()), ((), 0, 1, ()))

    def test_since(self):
        self.assertEqual(told(Limits.since(0)), ((), 0, 1, (0,)))
        self.assertEqual(told(Limits.since(4)), ((), 4, 1, (0,)))
        self.assertEqual(told(Limits.since(2000)), ((), 2000, 1, (0,)))
        self.assertEqual((1999 in Limits.since(2000), 2000 in Limits.since(2000)), (False, True))

    def test_since_with_wrong_numbers(self):
        for value in (*NO_INTEGERS, *NEGATIVE, *LARGE):
            check_raises(self, InvalidNumber, {"value": value}, Limits.since, value)

    def test_only(self):
        self.assertEqual(told(Limits.only(())), ((), 0, 1, ()))
        self.assertEqual(told(Limits.only((0,))), ((0,), 1, 1, ()))
        self.assertEqual(told(Limits.only((1, 3, 1999))), ((1, 3, 1999), 2000, 1, ()))
        self.assertEqual(told(Limits.only(tuple(range(2000)))), (tuple(range(2000)), 2000, 1, ()))

    def test_only_with_wrong_values(self):
        for value in (*NO_TUPLES, (1, 0), (1, 1), (-1,), (2000,), (0, 2000), (LONG,), (True,), (0, True), ("0",),
                      (None,), ((0,),), ([],), (EVERY,)):
            check_raises(self, InvalidLimits, {}, Limits.only, value)


class Operators(unittest.TestCase):
    def test_four_operators(self):
        self.assertEqual(str(ODD & SOME), "3+6k, 7+6k")
        self.assertEqual(str(ODD | FEW), "0, 1+2k")
        self.assertEqual(str(ODD - SOME), "1, 5+6k")
        self.assertEqual(str(ODD ^ SOME), "0, 1, 2, 4+6k, 5+6k, 6+6k")
        self.assertEqual(str(EVEN | ODD), "0+1k")
        self.assertEqual(str(EVEN & ODD), "none")
        self.assertEqual(str(FEW - EVEN), "3, 1999")

    def test_all_other_integers(self):
        self.assertEqual((~EVERY, ~NONE, ~ODD, ~EVEN), (NONE, EVERY, EVEN, ODD))
        self.assertEqual(str(~Limits.only((0, 2))), "1, 3+1k")
        self.assertEqual(str(~Limits.since(2)), "0, 1")
        self.assertEqual(str(~SOME), "1, 5+3k")
        wide = Limits((), 2000, 2000, (0,))
        self.assertEqual(told(~wide)[1:3], (1, 2000))
        self.assertEqual(~~wide, wide)

    def test_least_common_multiple_at_the_bound(self):
        one, other = Limits((), 0, 16, (3,)), Limits((), 0, 125, (3,))
        self.assertEqual(told(one & other), ((), 0, 2000, (3,)))
        self.assertEqual((one | other).period, 2000)
        self.assertIs((one & other).is_within(one), True)
        self.assertIs(one.is_within(other), False)

    def test_too_many(self):
        pairs = ((44, 47), (3, 667), (2000, 1999), (2000, 3), (1999, 2), (1001, 1000))
        for first, second in pairs:
            one, other = Limits((), 0, first, (0,)), Limits((), 7, second, (0,))
            for call in OPERATORS.values():
                check_raises(self, TooMany, {"limit": 2000}, call, one, other)
                check_raises(self, TooMany, {"limit": 2000}, call, other, one)

    def test_periods_that_only_look_great_are_not_too_many(self):
        one = Limits((), 0, 2000, tuple(range(1, 2000, 2)))
        other = Limits((), 0, 1998, tuple(range(0, 1998, 3)))
        self.assertEqual(str(one & other), "3+6k")
        self.assertEqual(Limits((), 0, 1999, ()) | one, ODD)
        self.assertEqual(Limits((), 0, 1999, tuple(range(1999))) - one, EVEN)

    def test_a_great_period_goes_with_finite_sets(self):
        one = Limits((), 0, 1999, (5,))
        self.assertEqual(str(one & Limits.only((4, 5))), "5")
        self.assertEqual(str(one - Limits.only((5,))), "2004+1999k")
        self.assertEqual(one | one, one)

    def test_the_other_one_is_no_set(self):
        others = [value for value in VALUES if not isinstance(value, Limits)]
        for value in (*others, (ODD,), [ODD], "1+2k"):
            for call in OPERATORS.values():
                for one in (ODD, Limits((), 0, 1999, (5,))):
                    check_raises(self, InvalidLimits, {}, call, one, value)

    def test_within(self):
        for one, other, expected in ((ODD, EVERY, True), (EVERY, ODD, False), (NONE, NONE, True), (NONE, ODD, True),
                                     (ODD, NONE, False), (ODD, ODD, True), (Limits.only((1, 3)), ODD, True),
                                     (Limits.only((1, 2)), ODD, False), (Limits.since(5), Limits.since(4), True),
                                     (Limits.since(4), Limits.since(5), False), (ODD, ~Limits.only((0,)), True)):
            self.assertIs(one.is_within(other), expected)


class Members(unittest.TestCase):
    def test_in(self):
        for value in (0, 2, 3, 4, 6, 7, 3 * 10 ** 30, 3 * 10 ** 30 + 1, LONG, LONG - 2):
            self.assertIs(value in SOME, True, value)
        for value in (1, 5, 8, 3 * 10 ** 30 + 2, LONG - 1):
            self.assertIs(value in SOME, False, value)

    def test_what_is_no_integer_is_in_no_set(self):
        for value in (*NO_INTEGERS, *NEGATIVE):
            self.assertIs(value in EVERY, False)
            self.assertIs(value in ODD, False)
            self.assertIs(value in FEW, False)
            self.assertIs(value not in EVERY, True)

    def test_equal(self):
        self.assertEqual(Limits((1, 3), 4, 4, (1, 3)), ODD)
        self.assertEqual(Limits((1, 3), 5, 1, ()), Limits.only((1, 3)))
        for one, other in ((ODD, EVEN), (ODD, Limits.since(1)), (Limits((), 2, 2, (1,)), ODD), (NONE, EVERY),
                           (Limits.only((1,)), Limits.only((2,))), (Limits.only((1,)), Limits((), 1, 2, (1,)))):
            self.assertIs(one == other, False)
            self.assertIs(one != other, True)
        self.assertIs(ODD == Limits((), 0, 2, (1,)), True)
        self.assertIs(ODD != Limits((), 0, 2, (1,)), False)

    def test_equal_accepts_every_value(self):
        others = [value for value in VALUES if not isinstance(value, Limits)]
        for value in (*others, "1+2k", told(ODD), (ODD,)):
            self.assertIs(ODD == value, False)
            self.assertIs(value == ODD, False)
            self.assertIs(ODD != value, True)
            self.assertIs(NONE == value, False)

    def test_bool(self):
        for limits, expected in ((NONE, False), (EVERY, True), (Limits.only((0,)), True), (Limits.since(2000), True),
                                 (Limits((), 2000, 2000, ()), False), (Limits((), 2000, 2000, (1999,)), True)):
            self.assertIs(bool(limits), expected)

    def test_least(self):
        for limits, expected in ((NONE, None), (EVERY, 0), (FEW, 0), (ODD, 1), (Limits.only((1999,)), 1999),
                                 (Limits.since(2000), 2000), (Limits((), 2000, 2000, (1999,)), 3999)):
            self.assertEqual(limits.least, expected)

    def test_is_finite(self):
        for limits, expected in ((NONE, True), (EVERY, False), (FEW, True), (ODD, False),
                                 (Limits((5,), 9, 9, ()), True), (Limits((), 2000, 2000, (0,)), False)):
            self.assertIs(limits.is_finite, expected)


class Numbers(unittest.TestCase):
    def test_following(self):
        self.assertEqual([SOME.following(number) for number in range(9)], [0, 2, 2, 3, 4, 6, 6, 7, 9])
        self.assertEqual([FEW.following(number) for number in (0, 1, 3, 4, 1999)], [0, 3, 3, 1999, 1999])
        for limits, number in ((FEW, 2000), (FEW, LONG), (NONE, 0), (NONE, LONG)):
            self.assertIsNone(limits.following(number))
        self.assertEqual(ODD.following(10 ** 39), 10 ** 39 + 1)
        self.assertEqual(EVEN.following(LONG), 10 ** 40)
        self.assertEqual(Limits((), 2000, 2000, (1999,)).following(0), 3999)
        self.assertEqual(Limits((), 2000, 2000, (1999,)).following(4000), 5999)
        self.assertEqual(Limits((), 0, 2000, (0,)).following(1), 2000)

    def test_count(self):
        self.assertEqual([SOME.count(number) for number in range(9)], [0, 1, 1, 2, 3, 4, 4, 5, 6])
        self.assertEqual([FEW.count(number) for number in (0, 1, 3, 4, 1999, 2000, LONG)], [0, 1, 1, 2, 2, 3, 3])
        self.assertEqual((NONE.count(0), NONE.count(LONG)), (0, 0))
        self.assertEqual((EVERY.count(LONG), Limits.since(2000).count(LONG)), (LONG, LONG - 2000))
        self.assertEqual(ODD.count(10 ** 39), 5 * 10 ** 38)
        self.assertEqual(Limits((), 2000, 2000, (1999,)).count(3999), 0)
        self.assertEqual(Limits((), 2000, 2000, (1999,)).count(4000), 1)

    def test_following_and_count_with_wrong_numbers(self):
        for limits in (SOME, NONE, FEW):
            for value in (*NO_INTEGERS, *NEGATIVE):
                check_raises(self, InvalidNumber, {"value": value}, limits.following, value)
                check_raises(self, InvalidNumber, {"value": value}, limits.count, value)

    def test_members(self):
        self.assertEqual(SOME.members(0), ())
        self.assertEqual(SOME.members(1), (0,))
        self.assertEqual(SOME.members(2), (0, 2))
        self.assertEqual(SOME.members(8), (0, 2, 3, 4, 6, 7, 9, 10))
        self.assertEqual(FEW.members(2), (0, 3))
        self.assertEqual(FEW.members(1000), (0, 3, 1999))
        self.assertEqual((NONE.members(0), NONE.members(1000)), ((), ()))
        self.assertEqual(EVERY.members(1000), tuple(range(1000)))
        self.assertEqual(Limits((), 2000, 2000, (1999,)).members(1000), tuple(range(3999, 2002000, 2000)))
        self.assertEqual(Limits.only(tuple(range(2000))).members(1000), tuple(range(1000)))

    def test_members_with_wrong_numbers(self):
        for limits in (SOME, NONE, FEW):
            for value in (*NO_INTEGERS, *NEGATIVE, *LARGE, 1001, 2000):
                check_raises(self, InvalidNumber, {"value": value}, limits.members, value)


class Moved(unittest.TestCase):
    def test_moved(self):
        self.assertEqual(str(SOME.moved(0)), "0, 2, 3+3k, 4+3k")
        self.assertEqual(str(SOME.moved(1)), "1, 3, 4+3k, 5+3k")
        self.assertEqual(str(SOME.moved(-1)), "1, 2+3k, 3+3k")
        self.assertEqual(str(SOME.moved(-2)), "0, 1+3k, 2+3k")
        self.assertEqual(str(EVERY.moved(3)), "3+1k")
        self.assertEqual(str(EVERY.moved(-3)), "0+1k")
        self.assertEqual(str(FEW.moved(-1)), "2, 1998")

    def test_as_far_as_it_goes(self):
        self.assertEqual(told(EVERY.moved(2000)), ((), 2000, 1, (0,)))
        self.assertEqual(told(ODD.moved(2000)), ((), 2000, 2, (1,)))
        self.assertEqual(told(EVEN.moved(2000)), ((), 1999, 2, (0,)))
        self.assertEqual(told(Limits((), 0, 2000, (1999,)).moved(2000)), ((), 2000, 2000, (1999,)))
        self.assertEqual(told(Limits((), 0, 2000, (0,)).moved(2000)), ((), 1, 2000, (0,)))
        self.assertEqual(told(NONE.moved(2000)), ((), 0, 1, ()))
        self.assertEqual(told(NONE.moved(-2000)), ((), 0, 1, ()))
        self.assertEqual(told(Limits.since(2000).moved(-2000)), ((), 0, 1, (0,)))
        self.assertEqual(told(Limits.only((1999,)).moved(-2000)), ((), 0, 1, ()))
        self.assertEqual(told(Limits.only((1999,)).moved(-1999)), ((0,), 1, 1, ()))
        self.assertEqual(told(Limits.only((0,)).moved(1999)), ((1999,), 2000, 1, ()))
        self.assertEqual(told(Limits((), 2000, 2000, (1999,)).moved(-2000)), ((), 0, 2000, (1999,)))

    def test_too_many(self):
        for limits, number in ((Limits.only((0,)), 2000), (Limits.only((1999,)), 1), (FEW, 1), (Limits.since(2000), 1),
                               (Limits.since(1), 2000), (SOME, 1998), (Limits((), 2000, 2000, (1999,)), 2000)):
            check_raises(self, TooMany, {"limit": 2000}, limits.moved, number)
            self.assertEqual(limits.moved(2000 - limits.first).first, 2000)

    def test_told_with_a_greater_first(self):
        self.assertEqual(told(Limits((0, 2), 2000, 1, ()).moved(5)), ((5, 7), 8, 1, ()))
        self.assertEqual(told(Limits((), 2000, 1, ()).moved(2000)), ((), 0, 1, ()))

    def test_wrong_numbers(self):
        wrong = [value for value in (*NO_INTEGERS, *NEGATIVE, *LARGE) if value not in (-1, -2, -2000)]
        for limits in (SOME, NONE, FEW):
            for value in wrong:
                check_raises(self, InvalidNumber, {"value": value}, limits.moved, value)


class Texts(unittest.TestCase):
    def test_str(self):
        for limits, text in ((NONE, "none"), (EVERY, "0+1k"), (ODD, "1+2k"), (FEW, "0, 3, 1999"),
                             (SOME, "0, 2, 3+3k, 4+3k"), (Limits.since(2000), "2000+1k"), (Limits.only((0,)), "0"),
                             (Limits((), 5, 3, (0, 1)), "6+3k, 7+3k"), (Limits((0,), 5, 3, (1,)), "0, 7+3k"),
                             (Limits((), 2000, 2000, (0, 1999)), "2000+2000k, 3999+2000k"),
                             (Limits((0, 2, 3, 4), 5, 6, (0, 1, 3, 4)), "0, 2, 3+3k, 4+3k")):
            self.assertEqual(str(limits), text)

    def test_rests_are_ordered_by_their_members(self):
        self.assertEqual(str(Limits((), 5, 3, (0, 2)) - Limits.only((5,))), "6+3k, 8+3k")
        self.assertEqual(str(Limits((1, 2), 4, 3, (0, 1))), "1, 2, 4+3k, 6+3k")

    def test_with_and_without_each_part(self):
        # First 0 and above 0, with few and without, without rests, with one and with several.
        for few, first, period, rests, text in (
                ((), 0, 6, (1, 3, 4), "1+6k, 3+6k, 4+6k"), ((), 0, 5, (0,), "0+5k"), ((), 0, 3, (0, 2), "0+3k, 2+3k"),
                ((), 7, 6, (1, 3, 4), "7+6k, 9+6k, 10+6k"), ((), 8, 6, (1, 3, 4), "9+6k, 10+6k, 13+6k"),
                ((), 11, 1, (0,), "11+1k"), ((0, 6), 7, 4, (0, 3), "0, 6, 7+4k, 8+4k"), ((3, 9), 10, 1, (), "3, 9"),
                ((0, 1, 2), 3, 1, (), "0, 1, 2"), ((0,), 7, 6, (1,), "0, 7+6k"), ((1999,), 2000, 1, (), "1999")):
            limits = Limits(few, first, period, rests)
            self.assertEqual([str(limits), str(limits), f"{limits}"], [text, text, text])
            self.assertEqual(limits.few, few)

    def test_in_a_longer_text(self):
        self.assertEqual(f"at {ODD}", "at 1+2k")


if __name__ == "__main__":
    unittest.main()
