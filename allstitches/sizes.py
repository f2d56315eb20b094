"""Sets of sizes that are periodic from some size on."""

from math import lcm

from allstitches.errors import BadSizes
from allstitches.integers import is_size, is_whole

MOST_PERIOD = 5040


class Sizes:
    """A set of sizes; its attributes are those of the least form."""

    def __init__(self, early, start, period, later):
        check_form(early, start, period, later)
        flags = flags_told(early, start, period, later, start + period)
        least = least_period(flags[start:])
        begin = least_start(flags, start, least)
        self.early = places(flags[:begin])
        self.start = begin
        self.period = least
        self.later = places(flags[begin:begin + least])

    def __eq__(self, other):
        return (isinstance(other, Sizes) and self.early == other.early and self.start == other.start
                and self.period == other.period and self.later == other.later)

    def __contains__(self, x):
        if not is_size(x):
            return False
        if x < self.start:
            return holds(self.early, x)
        return holds(self.later, (x - self.start) % self.period)

    def __and__(self, other):
        start, period = common_form(self, other)
        ours = flags_of(self, start + period)
        theirs = flags_of(other, start + period)
        return sizes_of([here and there for here, there in zip(ours, theirs)], start)

    def __or__(self, other):
        start, period = common_form(self, other)
        ours = flags_of(self, start + period)
        theirs = flags_of(other, start + period)
        return sizes_of([here or there for here, there in zip(ours, theirs)], start)

    def __sub__(self, other):
        start, period = common_form(self, other)
        ours = flags_of(self, start + period)
        theirs = flags_of(other, start + period)
        return sizes_of([here and not there for here, there in zip(ours, theirs)], start)

    def __invert__(self):
        flags = flags_of(self, self.start + self.period)
        return sizes_of([not flag for flag in flags], self.start)

    def __bool__(self):
        return bool(self.early or self.later)

    @property
    def many(self):
        """The number of sizes in the set, None if it is infinite."""
        if self.later:
            return None
        return len(self.early)

    def least(self):
        """The least size in the set, None if there is none."""
        if self.early:
            return self.early[0]
        if self.later:
            return self.start + self.later[0]
        return None

    def first(self, many):
        """The ascending list of so many least sizes, or of all, if these are fewer."""
        found = list(self.early[:many])
        if not self.later:
            return found
        each = len(self.later)
        missing = range(many - len(found))
        return found + [self.start + k // each * self.period + self.later[k % each] for k in missing]

    def within(self, other):
        """Whether each size of this set is in the other one."""
        return not bool(self - other)


def check_form(early, start, period, later):
    """Raises BadSizes, if these four do not tell a set of sizes."""
    if not is_size(start):
        raise BadSizes("start is not an integer from 0 on")
    if not is_whole(period) or not 1 <= period <= MOST_PERIOD:
        raise BadSizes(f"period is not an integer from 1 to {MOST_PERIOD}")
    if not ascends(early, start):
        raise BadSizes("early is not an ascending tuple of sizes below start")
    if not ascends(later, period):
        raise BadSizes("later is not an ascending tuple of numbers below period")


def ascends(thing, end):
    """Whether a thing is an ascending tuple of integers from 0 to below an end."""
    if not isinstance(thing, tuple) or not all([is_size(number) for number in thing]):
        return False
    return all([low < high for low, high in zip(thing, thing[1:] + (end,))])


def holds(numbers, number):
    """Whether a number is in an ascending tuple."""
    low = 0
    high = len(numbers)
    while low < high:
        middle = (low + high) // 2
        if numbers[middle] < number:
            low = middle + 1
        else:
            high = middle
    return low < len(numbers) and numbers[low] == number


def flags_told(early, start, period, later, end):
    """For each size below an end, which is start at least, whether it is in the set so told."""
    flags = [False] * end
    for size in early:
        flags[size] = True
    for rest in later:
        for size in range(start + rest, end, period):
            flags[size] = True
    return flags


def flags_of(sizes, end):
    """For each size below an end, which is the set's start at least, whether it is in the set."""
    return flags_told(sizes.early, sizes.start, sizes.period, sizes.later, end)


def places(flags):
    """The ascending tuple of the places of what is True."""
    return tuple([place for place, flag in enumerate(flags) if flag])


def least_period(flags):
    """The least number of first flags that tell all by being repeated."""
    many = len(flags)
    lengths = [length for length in range(1, many + 1) if many % length == 0]
    return min([length for length in lengths if flags[:length] * (many // length) == flags])


def least_start(flags, start, period):
    """The least start from which flags repeat with a period, told a start from which they do."""
    while start > 0 and flags[start - 1] == flags[start - 1 + period]:
        start = start - 1
    return start


def common_form(one, other):
    """The least start and period that tell both of two sets."""
    period = lcm(one.period, other.period)
    if period > MOST_PERIOD:
        raise BadSizes(f"the common period {period} is above {MOST_PERIOD}")
    return (max(one.start, other.start), period)


def sizes_of(flags, start):
    """The set of which flags are told up to the first round of its period."""
    return Sizes(places(flags[:start]), start, len(flags) - start, places(flags[start:]))
