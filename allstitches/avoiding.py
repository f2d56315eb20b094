"""Sizes at which no row has certain numbers of turns."""

from allstitches.counting import Outs, fits_of_round, loops_by_part, turns_of
from allstitches.lines import Ratio, line_at
from allstitches.pieces import gain_of, rows_of
from allstitches.spans import gathered, without


def where_avoided(piece, barred):
    """The set of the sizes that come out and at which no row has turns in one of the spans that barred tells for it.

    Of a block only the most and the least turns of each row are looked at: no span may lie between these.
    """
    outs = Outs(piece)
    holes = []
    for row, turns in shown(piece, None):
        holes.extend([span_of(turns, low, high) for low, high in barred(row)])
    spans = without(outs.low, outs.high, [span for span in holes if span is not None])
    others = [size for size in outs.scant_ones() if not is_barred(shown(piece, size), size, barred)]
    return gathered([spans if flag else [] for flag in outs.flags], others)


def is_barred(pairs, size, barred):
    """Whether a row has turns at a size that are barred for it, told pairs of rows and turns."""
    for row, turns in pairs:
        many = turns.at(size)
        if any([low <= many and (high is None or many <= high) for low, high in barred(row)]):
            return True
    return False


def shown(piece, size):
    """Pairs of a row and its most or least turns, Ratios, at a size; None for all sizes that are not scant."""
    found = []
    for part, loops in zip(piece.parts, loops_by_part(piece)):
        for before in rounds_shown(part, loops, size):
            for row, here in fits_of_round(rows_of(part), before):
                found.append((row, turns_of(row, here) if row[1] else Ratio(0, 0, 1)))
    return found


def rounds_shown(part, loops, size):
    """The loops before some rounds of a part: those in which a row has most turns, and least."""
    if part[0] == "row":
        return [loops]
    base, rise = part[1]
    times = line_at(part[1], size) if size is not None else 2 if rise != 0 else base
    if times < 2:
        return [loops][:max(0, times)]
    # From round to round the turns change by one number.
    change = gain_of(part[2])
    return [loops, loops.plus(change * (base - 1), change * rise)]


def span_of(turns, low, high):
    """The span of the sizes at which turns are from low to high, None for no high; None if there is no such size."""
    if turns.rise == 0:
        fits = low * turns.below <= turns.base and (high is None or turns.base <= high * turns.below)
        return (0, None) if fits else None
    if turns.rise > 0:
        first = -((turns.base - low * turns.below) // turns.rise)
        return (first, None if high is None else (high * turns.below - turns.base) // turns.rise)
    first = 0 if high is None else -((high * turns.below - turns.base) // -turns.rise)
    return (first, (turns.base - low * turns.below) // -turns.rise)
