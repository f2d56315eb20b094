"""Floats: how many cells lie between neighbouring cells of one yarn."""

from allstitches.counting import Outs, fits_of_round, loops_by_part, turns_of
from allstitches.lines import Ratio, line_at
from allstitches.pieces import gain_of, rows_of
from allstitches.spans import gathered, without


def widest(piece, yarn):
    """The greatest float of a yarn in the cloth of any size that comes out, 0 for none, None for no greatest one."""
    outs = Outs(piece)
    found = [0]
    for size in outs.scant_ones():
        found.extend([float_in(row, yarn, turns.at(size)) for row, turns in shown(piece, size)])
    first, last = outs.ends()
    if first is None:
        return max(found)
    for row, turns in shown(piece, None):
        # The turns are most, and least, at the first size or at the last one.
        found.append(float_in(row, yarn, turns.at(first)))
        if last is not None:
            found.append(float_in(row, yarn, turns.at(last)))
        elif turns.rise > 0 and is_opened(row, yarn):
            return None
        elif turns.rise > 0:
            found.append(float_in(row, yarn, 2))
    return max(found)


def where_narrow(piece, yarn, most):
    """The set of the sizes that come out and have no float of a yarn greater than most."""
    outs = Outs(piece)
    holes = []
    for row, turns in shown(piece, None):
        holes.extend([span_of(turns, low, high) for low, high in wide_turns(row, yarn, most)])
    spans = without(outs.low, outs.high, [span for span in holes if span is not None])
    others = []
    for size in outs.scant_ones():
        floats = [float_in(row, yarn, turns.at(size)) for row, turns in shown(piece, size)]
        if max(floats, default=0) <= most:
            others.append(size)
    return gathered([spans if flag else [] for flag in outs.flags], others)


def shown(piece, size):
    """Pairs of a row and its turns, a Ratio, that show all floats at a size; None for all sizes that are not scant."""
    found = []
    for part, loops in zip(piece.parts, loops_by_part(piece)):
        for before in rounds_shown(part, loops, size):
            for row, here in fits_of_round(rows_of(part), before):
                found.append((row, turns_of(row, here) if row[1] else Ratio(0, 0, 1)))
    return found


def rounds_shown(part, loops, size):
    """The loops before some rounds of a part: those in which a row has most turns, and none, if it ever has."""
    if part[0] == "row":
        return [loops]
    base, rise = part[1]
    times = line_at(part[1], size) if size is not None else 2 if rise != 0 else base
    if times < 2:
        return [loops][:max(0, times)]
    # From round to round the turns change by one number.
    change = gain_of(part[2])
    return [loops, loops.plus(change * (base - 1), change * rise)]


def span_of(turns, low, high):
    """The span of the sizes at which turns are from low to high, None for no high; None if there is no such size."""
    if turns.rise == 0:
        fits = low * turns.below <= turns.base and (high is None or turns.base <= high * turns.below)
        return (0, None) if fits else None
    if turns.rise > 0:
        first = -((turns.base - low * turns.below) // turns.rise)
        return (first, None if high is None else (high * turns.below - turns.base) // turns.rise)
    first = 0 if high is None else -((high * turns.below - turns.base) // -turns.rise)
    return (first, (turns.base - low * turns.below) // -turns.rise)


def wide_turns(row, yarn, most):
    """The list of the spans of the turns with which a row has a float of a yarn greater than most."""
    found = [(turns, turns) for turns in (0, 1) if float_in(row, yarn, turns) > most]
    # What one turn has, more turns have, too.
    if float_in(row, yarn, 2) > most:
        found.append((2, None))
    elif is_opened(row, yarn):
        found.append(((most - opening(row, yarn)) // len(row[1]) + 1, None))
    return found


def float_in(row, yarn, turns):
    """The greatest float of a yarn in the word of a row with so many turns, 0 if there is none."""
    before, group, after = row
    if is_opened(row, yarn):
        inner = max(widest_in(before, yarn), widest_in(after, yarn))
        return max(inner, opening(row, yarn) + turns * len(group))
    # From the second turn on no new float comes.
    return widest_in(before + group * min(turns, 2) + after, yarn)


def is_opened(row, yarn):
    """Whether a float of a yarn grows with each turn of a row: before and after have the yarn, the group has not."""
    before, group, after = [bool(places_of(word, yarn)) for word in row]
    return before and after and not group


def opening(row, yarn):
    """The cells between the last cell of a yarn in before and the first one in after, without those of the turns."""
    return len(row[0]) - 1 - places_of(row[0], yarn)[-1] + places_of(row[2], yarn)[0]


def places_of(word, yarn):
    """The ascending list of the places of the cells of a yarn."""
    return [place for place, cell in enumerate(word) if cell[1] == yarn]


def widest_in(word, yarn):
    """The greatest float of a yarn in a word, 0 if there is none."""
    places = places_of(word, yarn)
    return max([there - here - 1 for here, there in zip(places, places[1:])], default=0)
