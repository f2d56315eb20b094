"""Sizes whose edges are as wide as is wanted."""

from allstitches.counting import Outs
from allstitches.errors import Never
from allstitches.faults import BadCount
from allstitches.integers import is_whole
from allstitches.measures import Together
from allstitches.seams import edge_of
from allstitches.spans import first_in, last_in, without
from allstitches.yarn import Amount, constant, positive_spans

MOST_WANTED = 1000000


def nearest(piece, edge, above, below):
    """The size that comes out and whose edge is nearest to above / below, the least one of those."""
    base, rise, parted = edge_of(piece, edge)
    if not is_whole(above) or not 0 <= above <= MOST_WANTED:
        raise BadCount(f"above is not an integer from 0 to {MOST_WANTED}")
    if not is_whole(below) or not 1 <= below <= MOST_WANTED:
        raise BadCount(f"below is not an integer from 1 to {MOST_WANTED}")
    outs = Outs(piece)
    # The distance of the edge, with a fraction that is the same for all sizes, is abs(slope * size - wanted).
    wanted, slope = above * parted - base * below, rise * below
    turn = wanted // slope if slope != 0 else 0
    found = [(abs(slope * size - wanted), size) for size in sizes_beside(outs, turn)]
    if not found:
        raise Never("no size comes out")
    return min(found)[1]


def where_between(piece, edge, low, high):
    """The set of the sizes that come out with an edge from low to high."""
    base, rise, parted = edge_of(piece, edge)
    if not is_whole(low) or not is_whole(high):
        raise BadCount("low or high is not an integer")
    told = Amount(base, rise, 0, parted)
    enough = positive_spans(told.plus(constant(low - 1), -1))
    more = positive_spans(told.plus(constant(high), -1))
    spans = [span for first, last in enough for span in without(first, last, more)]
    return Together([piece], []).sizes_in(spans)


def sizes_beside(outs, turn):
    """Some sizes that come out: all scant ones, and for each rest the last one up to a number and the first behind."""
    found = outs.scant_ones()
    period = len(outs.flags)
    last = turn if outs.high is None else min(turn, outs.high)
    for rest in [place for place, flag in enumerate(outs.flags) if flag]:
        sides = [last_in(last, rest, period), first_in(max(turn + 1, outs.low), rest, period)]
        found.extend([size for size in sides if outs.has(size)])
    return found
