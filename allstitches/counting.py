"""Loops as lines, and the sizes that come out."""

from math import lcm

from allstitches.kinds import makes, takes
from allstitches.lines import Ratio, line_at
from allstitches.pieces import gain, gain_of, needs, rows_of
from allstitches.spans import first_in, gathered, last_in


class Spot:
    """A row of a piece, where it stands, and the Ratio of the loops before it."""

    def __init__(self, part, place, row, loops):
        self.part = part
        self.place = place
        self.row = row
        self.loops = loops


def spots(piece):
    """The list with a Spot for each row of a piece, in the order of the text."""
    found = []
    befores = loops_by_part(piece)
    for position, part in enumerate(piece.parts):
        loops = befores[position]
        for place, row in enumerate(rows_of(part)):
            found.append(Spot(position, place, row, loops))
            loops = loops.plus(gain(row), 0)
    return found


def last_loops(piece):
    """The Ratio of the loops behind the last row of a piece."""
    return loops_by_part(piece)[-1]


def rows_worked(piece):
    """The Ratio of the number of the rows that are worked."""
    base, rise = 0, 0
    for part in piece.parts:
        line = part[1] if part[0] == "block" else (1, 0)
        base = base + line[0] * len(rows_of(part))
        rise = rise + line[1] * len(rows_of(part))
    return Ratio(base, rise, 1)


def loops_by_part(piece):
    """The list of the Ratios of the loops before each part, and behind the last one."""
    loops = Ratio(piece.cast[0], piece.cast[1], 1)
    found = [loops]
    for part in piece.parts:
        loops = loops_behind(part, loops)
        found.append(loops)
    return found


def loops_behind(part, loops):
    """The Ratio of the loops behind a part, told that of the loops before it."""
    if part[0] == "block":
        base, rise = part[1]
        change = gain_of(part[2])
        return loops.plus(change * base, change * rise)
    row = part[1]
    made = makes(row[0]) + makes(row[2])
    if not row[1]:
        return Ratio(made, 0, 1)
    return turns_of(row, loops).times(makes(row[1]), 1).plus(made, 0)


def turns_of(row, loops):
    """The Ratio of the turns of a row with a group, told that of the loops before it."""
    return loops.plus(-needs(row), 0).times(1, takes(row[1]))


def misfit(row, loops):
    """Why a row does not fit a number of loops, None if it does."""
    spare = loops - needs(row)
    if spare < 0:
        return "few"
    if not row[1]:
        return "left" if spare > 0 else None
    return "parts" if spare % takes(row[1]) else None


def trouble(piece, size):
    """The number of rows worked before the first trouble at a size, and why; None if it comes out."""
    loops = line_at(piece.cast, size)
    if loops < 0:
        return (0, "cast")
    done = 0
    for part in piece.parts:
        rows = rows_of(part)
        times = line_at(part[1], size) if part[0] == "block" else 1
        if times < 0:
            return (done, "times")
        found = first_misfit(rows, loops, times)
        if found is not None:
            return (done + found[0], found[1])
        done = done + times * len(rows)
        loops = count_behind(part, loops, times)
    return None


def count_behind(part, loops, times):
    """The number of loops behind a part that fits the number before it."""
    if part[0] == "block":
        return loops + times * gain_of(part[2])
    row = part[1]
    turns = (loops - needs(row)) // takes(row[1]) if row[1] else 0
    return makes(row[0]) + turns * makes(row[1]) + makes(row[2])


def first_misfit(rows, loops, times):
    """How many rows fit, if rows are worked so many times, and why the next does not; None if all do."""
    change = gain_of(rows)
    found = []
    for place, row in enumerate(rows):
        turn = first_bad_round(row, loops, change)
        if turn is not None and turn < times:
            found.append((turn * len(rows) + place, misfit(row, loops + turn * change)))
        loops = loops + gain(row)
    return min(found, default=None)


def first_bad_round(row, loops, change):
    """The first round in which a row does not fit, if each one changes the loops so; None if it always does."""
    if misfit(row, loops) is not None:
        return 0
    if misfit(row, loops + change) is not None:
        return 1
    # A row that fits twice has a group into which the change can be parted, or nothing changes: it can only run short.
    if change >= 0:
        return None
    return (loops - needs(row)) // -change + 1


class Outs:
    """Which sizes come out: of those from low to high the ones whose flag, by their rest, is True; and scant ones.

    For each of the scant sizes, scant tells whether it comes out.
    """

    def __init__(self, piece):
        # At all but the scant sizes, what is wanted is that some Ratios are at least 0, and some are integers.
        fits = fits_wanted(piece)
        low, high = bounds_of(counts_wanted(piece, fits))
        self.flags = flags_whole([turns_of(row, loops) for row, loops in fits if row[1]])
        self.low = low
        # Without a flag no size comes out, however far out low is.
        self.high = high if any(self.flags) else -1
        self.scant = {size: trouble(piece, size) is None for size in scant_sizes(piece)}

    def has_flag(self, size):
        """Whether the flag of a size is True."""
        return self.flags[size % len(self.flags)]

    def has(self, size):
        """Whether a size comes out."""
        if size in self.scant:
            return self.scant[size]
        return self.low <= size and (self.high is None or size <= self.high) and self.has_flag(size)

    def scant_ones(self):
        """The list of the scant sizes that come out."""
        return [size for size, out in self.scant.items() if out]

    def spans(self):
        """The spans of the sizes that come out and are not scant, for each rest."""
        return [[(self.low, self.high)] if flag else [] for flag in self.flags]

    def ends(self):
        """The first and the last size that comes out and is not scant; None if there is no last one, or none at all."""
        rests = [rest for rest, flag in enumerate(self.flags) if flag]
        first = min([first_in(self.low, rest, len(self.flags)) for rest in rests], default=None)
        if self.high is None:
            return (first, None)
        last = max([last_in(self.high, rest, len(self.flags)) for rest in rests], default=-1)
        return (first, last) if first is not None and first <= last else (None, None)


def out_sizes(piece):
    """The set of the sizes that come out."""
    outs = Outs(piece)
    return gathered(outs.spans(), outs.scant_ones())


def scant_sizes(piece):
    """The ascending list of the sizes at which a block whose line rises or falls is done once or not at all."""
    lines = [part[1] for part in piece.parts if part[0] == "block" and part[1][1] != 0]
    sizes = [(times - base) // rise for base, rise in lines for times in (0, 1) if (times - base) % rise == 0]
    return sorted({size for size in sizes if size >= 0})


def fits_wanted(piece):
    """The pairs of a row and a Ratio: if these fit, all rows do, where the size is not scant."""
    fits = []
    for part, loops in zip(piece.parts, loops_by_part(piece)):
        for before in rounds_that_tell(part, loops):
            fits.extend(fits_of_round(rows_of(part), before))
    return fits


def rounds_that_tell(part, loops):
    """The loops before some rounds, such that all rounds fit if these do, where the size is not scant."""
    if part[0] == "row":
        return [loops]
    base, rise = part[1]
    if rise == 0 and base < 2:
        return [loops] if base == 1 else []
    change = gain_of(part[2])
    # The first two rounds tell whether the change can be parted, the first and the last whether loops suffice.
    return [loops, loops.plus(change, 0), loops.plus(change * (base - 1), change * rise)]


def fits_of_round(rows, loops):
    """The pairs of each row and the loops before it, told those before the round."""
    found = []
    for row in rows:
        found.append((row, loops))
        loops = loops.plus(gain(row), 0)
    return found


def counts_wanted(piece, fits):
    """The Ratios that are at least 0, if a size that is not scant comes out."""
    counts = [Ratio(piece.cast[0], piece.cast[1], 1)]
    for part in piece.parts:
        if part[0] == "block":
            base, rise = part[1]
            counts.append(Ratio(base if rise == 0 else base - 2, rise, 1))
    for row, loops in fits:
        spare = loops.plus(-needs(row), 0)
        counts.append(spare)
        if not row[1]:
            counts.append(spare.times(-1, 1))
    return counts


def bounds_of(counts):
    """The least and the greatest size at which Ratios are at least 0; None for no greatest, -1 if there is none."""
    low = 0
    highs = []
    for count in counts:
        if count.rise > 0:
            low = max(low, -(count.base // count.rise))
        elif count.rise < 0:
            highs.append(max(-1, count.base // -count.rise))
        elif count.base < 0:
            highs.append(-1)
    return (low, min(highs, default=None))


def flags_whole(ratios):
    """Whether Ratios are integers at a size, for the sizes of one period, with which this repeats."""
    period = 1
    for ratio in ratios:
        period = lcm(period, ratio.below)
    tests = [(ratio.base, ratio.rise, ratio.below) for ratio in ratios]
    return [all([(base + rise * size) % below == 0 for base, rise, below in tests]) for size in range(period)]
