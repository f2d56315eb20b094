"""Floats: how many cells lie between neighbouring cells of one yarn."""

from allstitches.avoiding import shown, where_avoided
from allstitches.counting import Outs


def widest(piece, yarn):
    """The greatest float of a yarn in the cloth of any size that comes out, 0 for none, None for no greatest one."""
    outs = Outs(piece)
    found = [0]
    for size in outs.scant_ones():
        found.extend([float_in(row, yarn, turns.at(size)) for row, turns in shown(piece, size)])
    first, last = outs.ends()
    if first is None:
        return max(found)
    for row, turns in shown(piece, None):
        # The turns are most, and least, at the first size or at the last one.
        found.append(float_in(row, yarn, turns.at(first)))
        if last is not None:
            found.append(float_in(row, yarn, turns.at(last)))
        elif turns.rise > 0 and is_opened(row, yarn):
            return None
        elif turns.rise > 0:
            found.append(float_in(row, yarn, 2))
    return max(found)


def where_narrow(piece, yarn, most):
    """The set of the sizes that come out and have no float of a yarn greater than most."""
    return where_avoided(piece, lambda row: wide_turns(row, yarn, most))


def wide_turns(row, yarn, most):
    """The list of the spans of the turns with which a row has a float of a yarn greater than most."""
    found = [(turns, turns) for turns in (0, 1) if float_in(row, yarn, turns) > most]
    # What one turn has, more turns have, too.
    if float_in(row, yarn, 2) > most:
        found.append((2, None))
    elif is_opened(row, yarn):
        found.append(((most - opening(row, yarn)) // len(row[1]) + 1, None))
    return found


def float_in(row, yarn, turns):
    """The greatest float of a yarn in the word of a row with so many turns, 0 if there is none."""
    before, group, after = row
    if is_opened(row, yarn):
        inner = max(widest_in(before, yarn), widest_in(after, yarn))
        return max(inner, opening(row, yarn) + turns * len(group))
    # From the second turn on no new float comes.
    return widest_in(before + group * min(turns, 2) + after, yarn)


def is_opened(row, yarn):
    """Whether a float of a yarn grows with each turn of a row: before and after have the yarn, the group has not."""
    before, group, after = [bool(places_of(word, yarn)) for word in row]
    return before and after and not group


def opening(row, yarn):
    """The cells between the last cell of a yarn in before and the first one in after, without those of the turns."""
    return len(row[0]) - 1 - places_of(row[0], yarn)[-1] + places_of(row[2], yarn)[0]


def places_of(word, yarn):
    """The ascending list of the places of the cells of a yarn."""
    return [place for place, cell in enumerate(word) if cell[1] == yarn]


def widest_in(word, yarn):
    """The greatest float of a yarn in a word, 0 if there is none."""
    places = places_of(word, yarn)
    return max([there - here - 1 for here, there in zip(places, places[1:])], default=0)
