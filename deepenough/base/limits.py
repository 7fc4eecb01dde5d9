"""Sets of limits that come round."""

from math import lcm

from deepenough.base.words import is_ascending_below, is_whole_from, is_whole_within
from deepenough.errors import InvalidLimits, InvalidNumber, TooMany

LARGEST = 2000
MOST_MEMBERS = 1000

DIGITS = "0123456789"
# No number in the text of a set is greater than 3999: first and period are at most 2000.
LONGEST_NUMBER = 4

# Each period up to 2000 is made of these and of at most one greater prime.
PRIMES = (2, 3, 5, 7, 11, 13, 17, 19, 23, 29, 31, 37, 41, 43)


class Limits:
    """A set of integers from 0 on that comes round.

    Sets of numbers are kept as integers with a bit for each number, which makes all answers quick: `_early` has the
    members below first, which is `_low`, and `_cycle` the rests by the period, which is `_span`.
    """

    def __init__(self, few, first, period, rests):
        if not _tell_a_set(few, first, period, rests):
            raise InvalidLimits("these are not few, first, period and rests of a set of limits")
        # The same set can be told in many ways. Only the least one is kept, so equal sets have equal parts.
        self._cycle, self._span = _least_cycle(_bits(rests), period)
        self._early, self._low = _least_early(_bits(few), first, self._cycle, self._span)
        self._few = None
        self._rests = None

    @classmethod
    def every(cls):
        """All integers from 0 on."""
        return cls((), 0, 1, (0,))

    @classmethod
    def none(cls):
        """No integer at all."""
        return cls((), 0, 1, ())

    @classmethod
    def since(cls, number):
        """All integers from a number on."""
        if not is_whole_within(number, 0, LARGEST):
            raise InvalidNumber(number)
        return cls((), number, 1, (0,))

    @classmethod
    def only(cls, values):
        """These integers alone."""
        # The values may be just what may stand below the greatest first, so the errors are the same.
        return cls(values, LARGEST, 1, ())

    @property
    def few(self):
        """The members below first."""
        if self._few is None:
            self._few = _numbers(self._early)
        return self._few

    @property
    def first(self):
        """The number from which on the set comes round."""
        return self._low

    @property
    def period(self):
        """The least period."""
        return self._span

    @property
    def rests(self):
        """The rests by the period that the members from first on have."""
        if self._rests is None:
            self._rests = _numbers(self._cycle)
        return self._rests

    @property
    def least(self):
        """The least member, or None."""
        return self.following(0)

    @property
    def is_finite(self):
        """Whether there are finitely many members."""
        return self._cycle == 0

    def is_within(self, other):
        """Whether all members are in the other set."""
        early, cycle, other_early, other_cycle, _, _ = _aligned(self, other)
        return early & other_early == early and cycle & other_cycle == cycle

    def following(self, number):
        """The least member that is not less than a number, or None."""
        if not is_whole_from(number, 0):
            raise InvalidNumber(number)
        if number < self._low and self._early >> number:
            return number + _lowest(self._early >> number)
        if self._cycle == 0:
            return None
        # One period has each rest once, so there is a member in it.
        start = max(number, self._low)
        return start + _lowest(_turned(self._cycle, self._span, -start))

    def count(self, number):
        """How many members are less than a number."""
        if not is_whole_from(number, 0):
            raise InvalidNumber(number)
        if number <= self._low:
            return _many(self._early & (1 << number) - 1)
        # The number can have forty digits, so whole periods are multiplied and not counted.
        periods, more = divmod(number - self._low, self._span)
        late = _many(self._late() & (1 << more) - 1)
        return _many(self._early) + periods * _many(self._cycle) + late

    def members(self, many):
        """The tuple of the least so many members, fewer if there are no more."""
        if not is_whole_within(many, 0, MOST_MEMBERS):
            raise InvalidNumber(many)
        found = list(self.few[:many])
        starts = _numbers(self._late())
        gone = self._low
        while starts and len(found) < many:
            found.extend([value + gone for value in starts])
            gone = gone + self._span
        return tuple(found[:many])

    def moved(self, number):
        """The set of all members plus a number, without what is below 0."""
        if not is_whole_within(number, -LARGEST, LARGEST):
            raise InvalidNumber(number)
        # If first is 0, the sum is never too great. Otherwise the number ahead of first breaks the round,
        # and it still does so when it is moved: the sum is the very first of the moved set.
        low = self._low + number
        if low > LARGEST:
            raise TooMany(LARGEST)
        early = self._early << number if number >= 0 else self._early >> -number
        return _made(early, max(0, low), _turned(self._cycle, self._span, number), self._span)

    def _late(self):
        """One period from first on, with a bit for each number counted from there."""
        return _turned(self._cycle, self._span, -self._low)

    def __and__(self, other):
        early, cycle, other_early, other_cycle, low, span = _aligned(self, other)
        return _made(early & other_early, low, cycle & other_cycle, span)

    def __or__(self, other):
        early, cycle, other_early, other_cycle, low, span = _aligned(self, other)
        return _made(early | other_early, low, cycle | other_cycle, span)

    def __sub__(self, other):
        early, cycle, other_early, other_cycle, low, span = _aligned(self, other)
        return _made(early & ~other_early, low, cycle & ~other_cycle, span)

    def __xor__(self, other):
        early, cycle, other_early, other_cycle, low, span = _aligned(self, other)
        return _made(early ^ other_early, low, cycle ^ other_cycle, span)

    def __invert__(self):
        return _made(self._early ^ (1 << self._low) - 1, self._low, self._cycle ^ (1 << self._span) - 1, self._span)

    def __contains__(self, value):
        if not is_whole_from(value, 0):
            return False
        if value < self._low:
            return self._early >> value & 1 == 1
        return self._cycle >> value % self._span & 1 == 1

    def __eq__(self, other):
        if not isinstance(other, Limits) or self._low != other._low or self._span != other._span:
            return False
        return self._early == other._early and self._cycle == other._cycle

    def __bool__(self):
        return bool(self._early | self._cycle)

    def __str__(self):
        words = [str(value) for value in self.few]
        if self._cycle:
            words = [*words, *_late_words(self._cycle, self._low, self._span)]
        if not words:
            return "none"
        return ", ".join(words)


def _late_words(cycle, low, span):
    """The words of the members from first on: one for each rest, in ascending order of the members."""
    behind = f"+{span}k"
    return [f"{value + low}{behind}" for value in _numbers(_turned(cycle, span, -low))]


def read_limits(text):
    """The set of limits with this str."""
    if not isinstance(text, str):
        raise InvalidLimits("the text of a set of limits is a string")
    if text == "none":
        return Limits.none()
    limits = _limits_of(text.split(", "))
    # A set can be told by many texts, but only one of them is its str. What is left over here,
    # unlike periods and missing letters too, does not come back as the text that was read.
    if str(limits) != text:
        raise InvalidLimits("the text is not the str of a set of limits")
    return limits


def _limits_of(words):
    """The set that the words of a text tell, if they are those of a str."""
    few = []
    starts = []
    period = 1
    for word in words:
        number, plus, tail = word.partition("+")
        if plus == "":
            few.append(_number(number))
        else:
            starts.append(_number(number))
            period = _number(tail.removesuffix("k"))
    if period == 0:
        raise InvalidLimits("no period is 0")
    # All starts lie in one period from first on, so the last one tells the least first that there can be.
    first = max([0, *[value + 1 for value in few], *[start - period + 1 for start in starts]])
    rests = sorted([start % period for start in starts])
    return Limits(tuple(few), first, period, tuple(rests))


def _number(word):
    """The number that a word of a text tells."""
    if not 1 <= len(word) <= LONGEST_NUMBER or not all([digit in DIGITS for digit in word]):
        raise InvalidLimits("a number of the text has one to four digits")
    return int(word)


def _tell_a_set(few, first, period, rests):
    """Whether the arguments have the form that Limits asks for."""
    if not is_whole_within(first, 0, LARGEST) or not is_whole_within(period, 1, LARGEST):
        return False
    return is_ascending_below(few, first) and is_ascending_below(rests, period)


def _made(early, low, cycle, span):
    """The set with these parts, which need not be the least ones."""
    cycle, span = _least_cycle(cycle, span)
    early, low = _least_early(early, low, cycle, span)
    made = Limits((), 0, 1, ())
    made._early = early
    made._low = low
    made._cycle = cycle
    made._span = span
    return made


def _aligned(one, other):
    """The parts of two sets, told with the same first and the same period; these two come last."""
    if not isinstance(other, Limits):
        raise InvalidLimits("the other one is no set of limits")
    span = lcm(one._span, other._span)
    if span > LARGEST:
        raise TooMany(LARGEST)
    low = max(one._low, other._low)
    return (_early_below(one, low), _filled(one._cycle, one._span, span),
            _early_below(other, low), _filled(other._cycle, other._span, span), low, span)


def _early_below(limits, low):
    """The members of a set that are less than a number, which is not less than its first."""
    if limits._low == low:
        return limits._early
    return limits._early | _filled(limits._cycle, limits._span, low) >> limits._low << limits._low


def _filled(cycle, span, size):
    """The numbers below a size that have the rests of a cycle."""
    if span == 1:
        return (1 << size) - 1 if cycle else 0
    while span < size:
        cycle = cycle | cycle << span
        span = span * 2
    return cycle & (1 << size) - 1


def _turned(cycle, span, number):
    """The rests of a cycle plus a number."""
    shift = number % span
    return (cycle << shift | cycle >> span - shift) & (1 << span) - 1


def _least_cycle(cycle, span):
    """The same rests by the least period, and this one."""
    left = span
    for prime in PRIMES:
        if left == 1:
            break
        while left % prime == 0:
            left = left // prime
            cycle, span = _shorter(cycle, span, prime)
    if left > 1:
        return _shorter(cycle, span, left)
    return cycle, span


def _shorter(cycle, span, prime):
    """The same rests by a period that is less by a prime factor, or by the same one if there are not the same."""
    step = span // prime
    if cycle >> step == cycle & (1 << span - step) - 1:
        return cycle & (1 << step) - 1, step
    return cycle, span


def _least_early(early, low, cycle, span):
    """The members below the least first, and this one."""
    # From the last number on that is not as the cycle would have it, all are.
    low = (early ^ _filled(cycle, span, low)).bit_length()
    return early & (1 << low) - 1, low


def _bits(values):
    """The bits of an ascending tuple of numbers."""
    if len(values) < 16:
        return sum([1 << value for value in values])
    # With many numbers it is quicker to write the bits down.
    digits = ["0"] * (values[-1] + 1)
    for value in values:
        digits[-1 - value] = "1"
    return int("".join(digits), 2)


def _numbers(bits):
    """The ascending tuple of the numbers of bits."""
    digits = f"{bits:b}"[::-1]
    if digits.count("1") * 4 > len(digits):
        return tuple([number for number, digit in enumerate(digits) if digit == "1"])
    found = []
    number = digits.find("1")
    while number >= 0:
        found.append(number)
        number = digits.find("1", number + 1)
    return tuple(found)


def _many(bits):
    """How many bits there are."""
    return f"{bits:b}".count("1")


def _lowest(bits):
    """The number of the lowest bit."""
    return (bits & -bits).bit_length() - 1
