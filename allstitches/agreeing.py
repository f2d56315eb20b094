"""Evidence that two pieces are the same at all sizes, or that they are not."""

from math import gcd, lcm

from allstitches.looks import Looks
from allstitches.measures import check_measures, common_measure
from allstitches.plans import Plan, Run, runs_of
from allstitches.sameness import comes_out, compare
from allstitches.walking import Stretch, first_unlike_row


class Split:
    """The least size at which two pieces are not the same."""

    def __init__(self, size):
        self.size = size

    def shows(self, one, two):
        """Whether it is that size of two pieces."""
        verdict = compare(one, two)
        return not verdict.is_same and verdict.size == self.size


class Sheet:
    """What two pieces, which are the same, both are at all sizes."""

    def __init__(self, period, rows):
        self.period = period
        self.rows = list(rows)

    def shows(self, one, two):
        """Whether it is a sheet of two pieces."""
        check_measures([one, two])
        if self.period < 1 or len(self.rows) != self.period:
            return False
        if self.period % common_measure([one, two]) != 0 or not compare(one, two).is_same:
            return False
        # The pieces are the same: what is right of the first one is right of both, and below least nothing is told.
        looks = Looks()
        plan = Plan(one, looks)
        for rest, (least, told) in enumerate(self.rows):
            if least < 0 or not is_right(plan, looks, rest, self.period, least, told):
                return False
        return True


def agreeing(one, two):
    """The Sheet of two pieces, if they are the same at all sizes, otherwise the Split."""
    verdict = compare(one, two)
    if not verdict.is_same:
        return Split(verdict.size)
    period = common_measure([one, two])
    looks = Looks()
    plan = Plan(one, looks)
    return Sheet(period, [sheet_row(plan, looks, rest, period) for rest in range(period)])


def sheet_row(plan, looks, rest, period):
    """The pair (least, told) of a plan at the sizes rest + period * k."""
    outs = plan.outs
    ends = [size for size in outs.scant if (size - rest) % period == 0]
    told = None
    if outs.has_flag(rest) and outs.high is None:
        ends.append(outs.low - 1)
        told = tuple([segment for run in runs_of(plan, rest, period) for segment in segments_of(run, looks)])
    elif outs.has_flag(rest):
        ends.append(outs.high)
    return (max([0] + [(end - rest) // period + 1 for end in ends]), told)


def segments_of(run, looks):
    """The list of the segments of a run."""
    each = len(run.entries)
    if run.rise == 0:
        return [segment_of(run.entries[place % each], (place // each, 0), looks) for place in range(run.base)]
    rounds = (run.base // each, run.rise // each)
    rows = [(looks.look_with(entry[0]), entry[1], entry[2], entry[3]) for entry in run.entries]
    last = [segment_of(entry, rounds, looks) for entry in run.entries[:run.base % each]]
    return [("rows", tuple(rows), rounds)] + last


def segment_of(entry, turn, looks):
    """The segment of the one row that an entry tells in a round, whose number is a line in k."""
    look, base, rise, step = entry
    return ("row", looks.look_with(look), base + step * turn[0], rise + step * turn[1])


def runs_told(told, looks):
    """The list of the runs that segments tell, by their k."""
    found = []
    for segment in told:
        if segment[0] == "row":
            entry = (looks.number_of(segment[1]), segment[2], segment[3], 0)
            found.append(Run([entry], 1, 0))
        else:
            entries = [(looks.number_of(look), base, rise, step) for look, base, rise, step in segment[1]]
            many = len(entries)
            found.append(Run(entries, segment[2][0] * many, segment[2][1] * many))
    return found


def runs_from(runs, first, by):
    """The runs at k = first + by * j, told by their j."""
    found = []
    for run in runs:
        entries = [(look, base + rise * first, rise * by, step) for look, base, rise, step in run.entries]
        found.append(Run(entries, run.base + run.rise * first, run.rise * by))
    return found


def is_right(plan, looks, rest, period, least, told):
    """Whether told says what a plan is at the sizes rest + period * k, for all k from least on."""
    if told is None:
        return not is_ever_out(plan.outs, rest, period, least)
    if not plan.outs.has_flag(rest) or plan.outs.high is not None:
        return False
    for segment in told:
        if segment[0] == "rows" and not are_rounds(segment[1], segment[2], least):
            return False
    runs = runs_told(told, looks)
    by = parting_of(runs + runs_of(plan, rest, period))
    for first in range(by):
        low = -((first - least) // by)
        if not is_right_from(plan, looks, rest + period * first, period * by, low, runs_from(runs, first, by)):
            return False
    return True


def parting_of(runs):
    """Into how many classes k is parted, such that in each one the rounds of runs lie side by side in the same way."""
    common = 1
    for run in runs:
        common = lcm(common, len(run.entries))
    by = 1
    for run in runs:
        by = lcm(by, common // gcd(common, run.rise))
    return by


def is_right_from(plan, looks, rest, period, low, runs):
    """Whether a plan comes out at the sizes rest + period * k, with the cloth of runs, for all k from low on."""
    plain = runs_of(plan, rest, period)
    while low is not None:
        stretch = Stretch(low, None)
        if not comes_out(plan.outs, rest, period, stretch):
            return False
        size = rest + period * low
        if size in plan.outs.scant:
            found = first_unlike_row(looks, runs_of(plan, size, 0), runs_from(runs, low, 0), stretch)
        else:
            found = first_unlike_row(looks, plain, runs, stretch)
        if found is not None:
            return False
        low = None if stretch.high is None else stretch.high + 1
    return True


def are_rounds(rows, rounds, least):
    """Whether there are rows, and rounds of them, which are 1 at least from least on, and rise."""
    return len(rows) > 0 and rounds[1] > 0 and rounds[0] + rounds[1] * least > 0


def is_ever_out(outs, rest, period, least):
    """Whether one of the sizes rest + period * k comes out, for a k from least on."""
    low = least
    while low is not None:
        stretch = Stretch(low, None)
        if comes_out(outs, rest, period, stretch):
            return True
        low = None if stretch.high is None else stretch.high + 1
    return False
