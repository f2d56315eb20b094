"""The cloth of two pieces, compared at all sizes."""

from allstitches.looks import Looks
from allstitches.measures import check_measures, common_measure
from allstitches.plans import Plan, runs_of
from allstitches.spans import gathered
from allstitches.walking import Stretch, first_unlike_row

# What is at some sizes, beside the kinds of a Verdict: both come out with the same cloth, or none of them comes out.
SAME = "same"
NEITHER = "neither"


class Verdict:
    """Whether two pieces give the same at all sizes; if not, the least size at which they don't, and what is there."""

    def __init__(self, is_same, size, row, kind):
        self.is_same = is_same
        self.size = size
        self.row = row
        self.kind = kind

    def __bool__(self):
        return bool(self.is_same)


class Lane:
    """The sizes rest + period * k of two plans, told by k."""

    def __init__(self, one, other, looks, rest, period):
        self.one = one
        self.other = other
        self.looks = looks
        self.rest = rest
        self.period = period
        self.runs = None
        if one.outs.has_flag(rest) and other.outs.has_flag(rest):
            self.runs = (runs_of(one, rest, period), runs_of(other, rest, period))

    def outcome(self, low):
        """What is at k: the last k up to which it surely is so (None: for all), then kind and row as of a Verdict."""
        stretch = Stretch(low, None)
        here = comes_out(self.one.outs, self.rest, self.period, stretch)
        there = comes_out(self.other.outs, self.rest, self.period, stretch)
        if not here or not there:
            return (stretch.high, NEITHER if here == there else "out", None)
        ones, others = self.runs_at(low)
        found = first_unlike_row(self.looks, ones, others, stretch)
        if found is None:
            return (stretch.high, SAME, None)
        return (stretch.high, found[1], found[0])

    def runs_at(self, low):
        """The runs of both plans at k."""
        size = self.rest + self.period * low
        if size in self.one.outs.scant or size in self.other.outs.scant:
            return (runs_of(self.one, size, 0), runs_of(self.other, size, 0))
        return self.runs


def comes_out(outs, rest, period, stretch):
    """Whether the sizes rest + period * k of a stretch come out; one that is scant makes a stretch of its own."""
    size = rest + period * stretch.low
    if size in outs.scant:
        stretch.end_at(stretch.low)
        return outs.scant[size]
    for scant in outs.scant:
        if scant > size and (scant - rest) % period == 0:
            stretch.end_at((scant - rest) // period - 1)
    if not outs.has_flag(rest) or not stretch.is_positive(rest - outs.low + 1, period):
        return False
    return outs.high is None or stretch.is_positive(outs.high + 1 - rest, -period)


class Facing:
    """Two pieces, made ready for being read side by side."""

    def __init__(self, one, other):
        self.looks = Looks()
        self.one = Plan(one, self.looks)
        self.other = Plan(other, self.looks)
        self.period = common_measure([one, other])

    def lane(self, rest):
        """The Lane of the sizes with a rest."""
        return Lane(self.one, self.other, self.looks, rest, self.period)


def where_same(one, two):
    """The set of the sizes that come out in both pieces with the same cloth."""
    check_measures([one, two])
    facing = Facing(one, two)
    return gathered([same_spans(facing.lane(rest)) for rest in range(facing.period)], [])


def same_spans(lane):
    """The ascending list of the spans of the sizes of a lane with the same cloth, no two side by side."""
    found = []
    low = 0
    while low is not None:
        high, kind, _ = lane.outcome(low)
        if kind == SAME:
            first = lane.rest + lane.period * low
            if found and found[-1][1] == first - lane.period:
                first = found.pop()[0]
            found.append((first, None if high is None else lane.rest + lane.period * high))
        low = None if high is None else high + 1
    return found


def compare(one, two):
    """The Verdict on whether two pieces are the same at all sizes."""
    check_measures([one, two])
    facing = Facing(one, two)
    best = Verdict(True, None, None, "")
    for rest in range(facing.period):
        found = first_unlike_size(facing.lane(rest), best.size)
        if found is not None:
            best = found
    return best


def first_unlike_size(lane, end):
    """The Verdict on the least size of a lane that is not the same, None if there is none below an end."""
    low = 0
    while low is not None and (end is None or lane.rest + lane.period * low < end):
        high, kind, row = lane.outcome(low)
        if kind not in (SAME, NEITHER):
            return Verdict(False, lane.rest + lane.period * low, row, kind)
        low = None if high is None else high + 1
    return None
