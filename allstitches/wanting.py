"""Sets of sizes that are wanted, held against the sizes that come out."""

from math import lcm

from allstitches.counting import Outs, trouble
from allstitches.errors import BadSizes
from allstitches.sizes import Sizes
from allstitches.spans import first_in

MOST_PERIOD = 42


def check_wanted(thing):
    """Raises BadSizes, if a thing is no set of sizes, or one whose period is too great to be wanted."""
    if not isinstance(thing, Sizes) or thing.period > MOST_PERIOD:
        raise BadSizes(f"not a set of sizes with a period of at most {MOST_PERIOD}")


def first_missing(piece, wanted):
    """The least wanted size that does not come out, None if all do."""
    outs = Outs(piece)
    for size in list(wanted.early) + later_sizes(wanted, outs):
        if not outs.has(size):
            return size
    if not wanted.later or outs.high is None:
        return None
    return min([first_in(outs.high + 1, wanted.start + rest, wanted.period) for rest in wanted.later])


def later_sizes(wanted, outs):
    """The ascending list of wanted sizes, from start on: if they come out, so do all, up to the last one that does.

    Behind the scant sizes the list goes on for as long as wanted sizes and those that come out repeat together.
    """
    end = max([wanted.start] + [size + 1 for size in outs.scant]) + lcm(wanted.period, len(outs.flags))
    return [first + rest for first in range(wanted.start, end, wanted.period) for rest in wanted.later]


def is_missing(piece, wanted, number):
    """Whether a number is a wanted size that does not come out."""
    return number in wanted and trouble(piece, number) is not None
