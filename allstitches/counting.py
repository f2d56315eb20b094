"""Loops as lines, and the sizes that come out."""

from math import lcm

from allstitches.kinds import makes, takes
from allstitches.lines import Ratio, line_at
from allstitches.pieces import gain, gain_of, needs, rows_of
from allstitches.sizes import Sizes


class Spot:
    """A row of a piece, where it stands, and the Ratio of the loops before it."""

    def __init__(self, part, place, row, loops):
        self.part = part
        self.place = place
        self.row = row
        self.loops = loops


def spots(piece):
    """The list with a Spot for each row of a piece, in the order of the text."""
    found = []
    befores = loops_by_part(piece)
    for position, part in enumerate(piece.parts):
        loops = befores[position]
        for place, row in enumerate(rows_of(part)):
            found.append(Spot(position, place, row, loops))
            loops = loops.plus(gain(row), 0)
    return found


def last_loops(piece):
    """The Ratio of the loops behind the last row of a piece."""
    return loops_by_part(piece)[-1]


def loops_by_part(piece):
    """The list of the Ratios of the loops before each part, and behind the last one."""
    loops = Ratio(piece.cast[0], piece.cast[1], 1)
    found = [loops]
    for part in piece.parts:
        loops = loops_behind(part, loops)
        found.append(loops)
    return found


def loops_behind(part, loops):
    """The Ratio of the loops behind a part, told that of the loops before it."""
    if part[0] == "block":
        base, rise = part[1]
        change = gain_of(part[2])
        return loops.plus(change * base, change * rise)
    row = part[1]
    made = makes(row[0]) + makes(row[2])
    if not row[1]:
        return Ratio(made, 0, 1)
    return turns_of(row, loops).times(makes(row[1]), 1).plus(made, 0)


def turns_of(row, loops):
    """The Ratio of the turns of a row with a group, told that of the loops before it."""
    return loops.plus(-needs(row), 0).times(1, takes(row[1]))


def misfit(row, loops):
    """Why a row does not fit a number of loops, None if it does."""
    spare = loops - needs(row)
    if spare < 0:
        return "few"
    if not row[1]:
        return "left" if spare > 0 else None
    return "parts" if spare % takes(row[1]) else None


def trouble(piece, size):
    """The number of rows worked before the first trouble at a size, and why; None if it comes out."""
    loops = line_at(piece.cast, size)
    if loops < 0:
        return (0, "cast")
    done = 0
    for part in piece.parts:
        rows = rows_of(part)
        times = line_at(part[1], size) if part[0] == "block" else 1
        if times < 0:
            return (done, "times")
        found = first_misfit(rows, loops, times)
        if found is not None:
            return (done + found[0], found[1])
        done = done + times * len(rows)
        loops = count_behind(part, loops, times)
    return None


def count_behind(part, loops, times):
    """The number of loops behind a part that fits the number before it."""
    if part[0] == "block":
        return loops + times * gain_of(part[2])
    row = part[1]
    turns = (loops - needs(row)) // takes(row[1]) if row[1] else 0
    return makes(row[0]) + turns * makes(row[1]) + makes(row[2])


def first_misfit(rows, loops, times):
    """How many rows fit, if rows are worked so many times, and why the next does not; None if all do."""
    change = gain_of(rows)
    found = []
    for place, row in enumerate(rows):
        turn = first_bad_round(row, loops, change)
        if turn is not None and turn < times:
            found.append((turn * len(rows) + place, misfit(row, loops + turn * change)))
        loops = loops + gain(row)
    return min(found, default=None)


def first_bad_round(row, loops, change):
    """The first round in which a row does not fit, if each one changes the loops so; None if it always does."""
    if misfit(row, loops) is not None:
        return 0
    if misfit(row, loops + change) is not None:
        return 1
    # A row that fits twice has a group into which the change can be parted, or nothing changes: it can only run short.
    if change >= 0:
        return None
    return (loops - needs(row)) // -change + 1


def out_sizes(piece):
    """The set of the sizes that come out."""
    # At all but the scant sizes, what is wanted is that some Ratios are at least 0, and some are integers.
    fits = fits_wanted(piece)
    low, high = bounds_of(counts_wanted(piece, fits))
    flags = flags_whole([turns_of(row, loops) for row, loops in fits if row[1]])
    others = [size for size in scant_sizes(piece) if trouble(piece, size) is None]
    return gathered(low, high, flags, others)


def scant_sizes(piece):
    """The ascending list of the sizes at which a block whose line rises or falls is done once or not at all."""
    lines = [part[1] for part in piece.parts if part[0] == "block" and part[1][1] != 0]
    sizes = [(times - base) // rise for base, rise in lines for times in (0, 1) if (times - base) % rise == 0]
    return sorted({size for size in sizes if size >= 0})


def fits_wanted(piece):
    """The pairs of a row and a Ratio: if these fit, all rows do, where the size is not scant."""
    fits = []
    for part, loops in zip(piece.parts, loops_by_part(piece)):
        for before in rounds_that_tell(part, loops):
            fits.extend(fits_of_round(rows_of(part), before))
    return fits


def rounds_that_tell(part, loops):
    """The loops before some rounds, such that all rounds fit if these do, where the size is not scant."""
    if part[0] == "row":
        return [loops]
    base, rise = part[1]
    if rise == 0 and base < 2:
        return [loops] if base == 1 else []
    change = gain_of(part[2])
    # The first two rounds tell whether the change can be parted, the first and the last whether loops suffice.
    return [loops, loops.plus(change, 0), loops.plus(change * (base - 1), change * rise)]


def fits_of_round(rows, loops):
    """The pairs of each row and the loops before it, told those before the round."""
    found = []
    for row in rows:
        found.append((row, loops))
        loops = loops.plus(gain(row), 0)
    return found


def counts_wanted(piece, fits):
    """The Ratios that are at least 0, if a size that is not scant comes out."""
    counts = [Ratio(piece.cast[0], piece.cast[1], 1)]
    for part in piece.parts:
        if part[0] == "block":
            base, rise = part[1]
            counts.append(Ratio(base if rise == 0 else base - 2, rise, 1))
    for row, loops in fits:
        spare = loops.plus(-needs(row), 0)
        counts.append(spare)
        if not row[1]:
            counts.append(spare.times(-1, 1))
    return counts


def bounds_of(counts):
    """The least and the greatest size at which Ratios are at least 0; None for no greatest, -1 if there is none."""
    low = 0
    highs = []
    for count in counts:
        if count.rise > 0:
            low = max(low, -(count.base // count.rise))
        elif count.rise < 0:
            highs.append(max(-1, count.base // -count.rise))
        elif count.base < 0:
            highs.append(-1)
    return (low, min(highs, default=None))


def flags_whole(ratios):
    """Whether Ratios are integers at a size, for the sizes of one period, with which this repeats."""
    period = 1
    for ratio in ratios:
        period = lcm(period, ratio.below)
    tests = [(ratio.base, ratio.rise, ratio.below) for ratio in ratios]
    return [all([(base + rise * size) % below == 0 for base, rise, below in tests]) for size in range(period)]


def gathered(low, high, flags, others):
    """The set of some other sizes, and of those from low to high whose flag, by their rest, is True."""
    period = len(flags)
    if not any(flags):
        # Nothing is gathered then, however far out low is.
        high = -1
    end = low if high is None else high + 1
    start = max([end] + [size + 1 for size in others])
    stop = start if high is None else end
    early = others + [size for size in range(low, stop) if flags[size % period]]
    later = [rest for rest in range(period) if high is None and flags[(start + rest) % period]]
    return Sizes(tuple(sorted(early)), start, period, tuple(later))
