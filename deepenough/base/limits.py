"""Sets of limits that come round."""

from math import lcm

from deepenough.base.words import is_ascending_below, is_whole_from, is_whole_within
from deepenough.errors import InvalidLimits, InvalidNumber, TooMany

LARGEST = 2000
MOST_MEMBERS = 1000

DIGITS = "0123456789"
# No number in the text of a set is greater than 3999: first and period are at most 2000.
LONGEST_NUMBER = 4

# Of each number it is asked whether it is in one set and whether it is in the other one.
# These are the answers with which it is in the joined set.
IN_BOTH = ((True, True),)
IN_SOME = ((True, True), (True, False), (False, True))
IN_FIRST_ALONE = ((True, False),)
IN_JUST_ONE = ((True, False), (False, True))


class Limits:
    """A set of integers from 0 on that comes round."""

    def __init__(self, few, first, period, rests):
        if not _tell_a_set(few, first, period, rests):
            raise InvalidLimits("these are not few, first, period and rests of a set of limits")
        early = _marks(few, first)
        # The same set can be told in many ways. Only the least one is kept, so equal sets have equal marks.
        self._cycle = _least_cycle(_marks(rests, period))
        self._early = early[:_least_first(early, self._cycle)]

    @classmethod
    def every(cls):
        """All integers from 0 on."""
        return cls((), 0, 1, (0,))

    @classmethod
    def none(cls):
        """No integer at all."""
        return cls((), 0, 1, ())

    @classmethod
    def since(cls, number):
        """All integers from a number on."""
        if not is_whole_within(number, 0, LARGEST):
            raise InvalidNumber(number)
        return cls((), number, 1, (0,))

    @classmethod
    def only(cls, values):
        """These integers alone."""
        # The values may be just what may stand below the greatest first, so the errors are the same.
        return cls(values, LARGEST, 1, ())

    @property
    def few(self):
        """The members below first."""
        return _marked(self._early)

    @property
    def first(self):
        """The number from which on the set comes round."""
        return len(self._early)

    @property
    def period(self):
        """The least period."""
        return len(self._cycle)

    @property
    def rests(self):
        """The rests by the period that the members from first on have."""
        return _marked(self._cycle)

    @property
    def least(self):
        """The least member, or None."""
        return self.following(0)

    @property
    def is_finite(self):
        """Whether there are finitely many members."""
        return not self.rests

    def is_within(self, other):
        """Whether all members are in the other set."""
        return not (self - other)

    def following(self, number):
        """The least member that is not less than a number, or None."""
        if not is_whole_from(number, 0):
            raise InvalidNumber(number)
        # One period from first on has each rest once: if there is no member up to its end, there is none behind it.
        for value in range(number, max(number, self.first) + self.period):
            if value in self:
                return value
        return None

    def count(self, number):
        """How many members are less than a number."""
        if not is_whole_from(number, 0):
            raise InvalidNumber(number)
        early = len([value for value in self.few if value < number])
        if number <= self.first:
            return early
        # The number can have forty digits, so whole periods are multiplied and not counted.
        periods, more = divmod(number - self.first, self.period)
        late = len([value for value in self._late() if value < self.first + more])
        return early + periods * len(self.rests) + late

    def members(self, many):
        """The tuple of the least so many members, fewer if there are no more."""
        if not is_whole_within(many, 0, MOST_MEMBERS):
            raise InvalidNumber(many)
        starts = self._late()
        found = list(self.few)
        gone = 0
        while starts and len(found) < many:
            found.extend([value + gone for value in starts])
            gone = gone + self.period
        return tuple(found[:many])

    def moved(self, number):
        """The set of all members plus a number, without what is below 0."""
        if not is_whole_within(number, -LARGEST, LARGEST):
            raise InvalidNumber(number)
        # If first is 0, the sum is never too great. Otherwise the number ahead of first breaks the round,
        # and it still does so when it is moved: the sum is the very first of the moved set.
        first = self.first + number
        if first > LARGEST:
            raise TooMany(LARGEST)
        few = [value + number for value in self.few if value + number >= 0]
        rests = sorted([(rest + number) % self.period for rest in self.rests])
        return Limits(tuple(few), max(0, first), self.period, tuple(rests))

    def _late(self):
        """For each rest the least member from first on with it, in ascending order."""
        return [value for value in range(self.first, self.first + self.period) if value in self]

    def __and__(self, other):
        return _joined(self, other, IN_BOTH)

    def __or__(self, other):
        return _joined(self, other, IN_SOME)

    def __sub__(self, other):
        return _joined(self, other, IN_FIRST_ALONE)

    def __xor__(self, other):
        return _joined(self, other, IN_JUST_ONE)

    def __invert__(self):
        return Limits.every() - self

    def __contains__(self, value):
        if not is_whole_from(value, 0):
            return False
        if value < self.first:
            return self._early[value]
        return self._cycle[value % self.period]

    def __eq__(self, other):
        return isinstance(other, Limits) and self._early == other._early and self._cycle == other._cycle

    def __bool__(self):
        return self.least is not None

    def __str__(self):
        few = [str(value) for value in self.few]
        late = [f"{value}+{self.period}k" for value in self._late()]
        words = [*few, *late]
        if not words:
            return "none"
        return ", ".join(words)


def read_limits(text):
    """The set of limits with this str."""
    if not isinstance(text, str):
        raise InvalidLimits("the text of a set of limits is a string")
    if text == "none":
        return Limits.none()
    limits = _limits_of(text.split(", "))
    # A set can be told by many texts, but only one of them is its str. What is left over here,
    # unlike periods and missing letters too, does not come back as the text that was read.
    if str(limits) != text:
        raise InvalidLimits("the text is not the str of a set of limits")
    return limits


def _limits_of(words):
    """The set that the words of a text tell, if they are those of a str."""
    few = []
    starts = []
    period = 1
    for word in words:
        number, plus, tail = word.partition("+")
        if plus == "":
            few.append(_number(number))
        else:
            starts.append(_number(number))
            period = _number(tail.removesuffix("k"))
    if period == 0:
        raise InvalidLimits("no period is 0")
    # All starts lie in one period from first on, so the last one tells the least first that there can be.
    first = max([0, *[value + 1 for value in few], *[start - period + 1 for start in starts]])
    rests = sorted([start % period for start in starts])
    return Limits(tuple(few), first, period, tuple(rests))


def _number(word):
    """The number that a word of a text tells."""
    if not 1 <= len(word) <= LONGEST_NUMBER or not all([digit in DIGITS for digit in word]):
        raise InvalidLimits("a number of the text has one to four digits")
    return int(word)


def _tell_a_set(few, first, period, rests):
    """Whether the arguments have the form that Limits asks for."""
    if not is_whole_within(first, 0, LARGEST) or not is_whole_within(period, 1, LARGEST):
        return False
    return is_ascending_below(few, first) and is_ascending_below(rests, period)


def _joined(one, other, answers):
    """The set of the numbers for which being in one set and in the other one is among the answers."""
    if not isinstance(other, Limits):
        raise InvalidLimits("the other one is no set of limits")
    period = lcm(one.period, other.period)
    if period > LARGEST:
        raise TooMany(LARGEST)
    first = max(one.first, other.first)
    few = [value for value in range(first) if (value in one, value in other) in answers]
    late = [value for value in range(first, first + period) if (value in one, value in other) in answers]
    rests = sorted([value % period for value in late])
    return Limits(tuple(few), first, period, tuple(rests))


def _marks(values, size):
    """For each number below size whether it is one of the values."""
    chosen = set(values)
    return tuple([number in chosen for number in range(size)])


def _marked(marks):
    """The ascending tuple of the numbers that are marked."""
    return tuple([number for number, mark in enumerate(marks) if mark])


def _least_cycle(cycle):
    """The shortest beginning of a cycle of which the cycle is a repetition."""
    size = len(cycle)
    step = 1
    while size % step > 0 or cycle != cycle[:step] * (size // step):
        step += 1
    return cycle[:step]


def _least_first(early, cycle):
    """The least number from which on the early marks go as the cycle does."""
    first = len(early)
    while first > 0 and early[first - 1] == cycle[(first - 1) % len(cycle)]:
        first -= 1
    return first
