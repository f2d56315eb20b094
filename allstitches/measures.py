"""What several pieces have in common: their measures, and the sizes at which all of them come out."""

from math import lcm

from allstitches.counting import Outs, flags_whole, trouble
from allstitches.errors import TooLong
from allstitches.pieces import measure_of
from allstitches.sizes import least_period
from allstitches.spans import clipped, finite, gathered, is_in

MOST_COMMON = 840
ALL_SIZES = ((0, None),)


def common_measure(pieces):
    """The least common multiple of the measures of pieces."""
    common = 1
    for piece in pieces:
        common = lcm(common, measure_of(piece.parts))
    return common


def check_measures(pieces, take=1):
    """Raises TooLong, if the least common multiple of the measures of pieces, and of a number, is above the limit."""
    if lcm(common_measure(pieces), take) > MOST_COMMON:
        raise TooLong(f"the common measure is above {MOST_COMMON}")


class Together:
    """The sizes at which all of some pieces come out, and some Ratios are integers, told as Outs are."""

    def __init__(self, pieces, wholes):
        outs = [Outs(piece) for piece in pieces]
        self.low = max([0] + [one.low for one in outs])
        self.high = min([one.high for one in outs if one.high is not None], default=None)
        self.flags = flags_at_once([one.flags for one in outs] + [flags_whole(wholes)])
        scant = sorted({size for one in outs for size in one.scant})
        self.scant = [size for size in scant if are_at(pieces, [], wholes, size)]

    def sizes_in(self, spans):
        """The set of those of the sizes that lie in ascending spans."""
        mine = clipped(spans, self.low, self.high)
        others = [size for size in self.scant if is_in(spans, size)]
        return gathered([mine if flag else [] for flag in self.flags], others)


def flags_at_once(lists):
    """Flags that are True where those of all lists are, which are each repeated, for the sizes of one period."""
    period = 1
    for flags in lists:
        period = lcm(period, len(flags))
    found = [all([mine[rest % len(mine)] for mine in lists]) for rest in range(period)]
    return found[:least_period(found)]


def are_at(pieces, zeros, wholes, size):
    """Whether a number is a size at which all pieces come out, some Ratios are 0, and others are integers."""
    if size < 0 or not all([trouble(piece, size) is None for piece in pieces]):
        return False
    if not all([ratio.base + ratio.rise * size == 0 for ratio in zeros]):
        return False
    return all([(ratio.base + ratio.rise * size) % ratio.below == 0 for ratio in wholes])


def where_zero(pieces, zeros, wholes):
    """The set of the sizes at which all pieces come out, some Ratios are 0, and others are integers."""
    if any([ratio.rise == 0 and ratio.base != 0 for ratio in zeros]):
        return finite([])
    for ratio in zeros:
        if ratio.rise != 0:
            # It is 0 at one number at most.
            size = -ratio.base // ratio.rise
            return finite([size] if are_at(pieces, zeros, wholes, size) else [])
    return Together(pieces, wholes).sizes_in(ALL_SIZES)
