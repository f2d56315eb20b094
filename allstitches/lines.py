"""Lines, which are integers for each size, and lines with a fraction."""

from math import gcd

from allstitches.integers import is_whole

MOST_BASE = 99
MOST_RISE = 9


def is_line(thing):
    """Whether a thing is a pair of a base and a rise."""
    if not isinstance(thing, tuple) or len(thing) != 2:
        return False
    base, rise = thing
    if not is_whole(base) or not is_whole(rise):
        return False
    return -MOST_BASE <= base <= MOST_BASE and -MOST_RISE <= rise <= MOST_RISE


def line_at(line, size):
    """The value of a line at a size."""
    return line[0] + line[1] * size


class Ratio:
    """A line with a fraction, (rise * size + base) / below, in lowest terms."""

    def __init__(self, base, rise, below):
        shared = gcd(base, rise, below)
        self.base = base // shared
        self.rise = rise // shared
        self.below = below // shared

    def at(self, size):
        """The value at a size, rounded down."""
        return (self.rise * size + self.base) // self.below

    def plus(self, base, rise):
        """The Ratio that is greater by a line."""
        return Ratio(self.base + base * self.below, self.rise + rise * self.below, self.below)

    def times(self, above, below):
        """The Ratio times the fraction above / below, where below is positive."""
        return Ratio(self.base * above, self.rise * above, self.below * below)
