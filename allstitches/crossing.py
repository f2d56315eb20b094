"""Crossings: where loops are sent by rows of which each cell makes as many loops as it takes."""

from math import lcm

from allstitches.counting import misfit
from allstitches.errors import BadRounds, BadRow, BadSize, NotOut
from allstitches.integers import is_size, is_whole
from allstitches.kinds import KINDS, takes
from allstitches.knitting import look_worked
from allstitches.pieces import is_row
from allstitches.sizes import sizes_of

MOST_ROWS_TOLD = 6
MOST_COMMON = 24
MOST_ROWS_WORKED = 24
# How far a cell sends a loop at most.
FARTHEST = 2


def sent(rows, loops, way="round"):
    """The list that has for each loop below a round, on so many loops, where it is behind it."""
    check_rows(rows)
    check_loops(rows, loops)
    return sent_by_round(rows, loops, way)


def back_after(rows, loops, way="round"):
    """The least number of rounds after which each of so many loops is where it was."""
    check_rows(rows)
    check_loops(rows, loops)
    rounds = 1
    for length in cycle_lengths(sent_by_round(rows, loops, way)):
        rounds = lcm(rounds, length)
    return rounds


def where_back(rows, rounds, way="round"):
    """The set of the numbers of loops on which each loop is where it was after so many rounds."""
    check_rows(rows)
    many = len(round_of(rows, way))
    if not is_whole(rounds) or not 1 <= rounds * many <= MOST_ROWS_WORKED:
        raise BadRounds(f"not an integer from 1 on, or more than {MOST_ROWS_WORKED} rows")
    common = common_takes(rows)
    start = start_of_likeness(rows, rounds * many, common)
    return sizes_of([is_back(rows, loops, rounds, way) for loops in range(start + common)], start)


def check_rows(rows):
    """Raises BadRow, if a thing is no tuple of steady rows whose loops can be followed."""
    if not isinstance(rows, tuple) or not 1 <= len(rows) <= MOST_ROWS_TOLD:
        raise BadRow(f"not a tuple of 1 to {MOST_ROWS_TOLD} rows")
    if not all([is_steady(row) for row in rows]):
        raise BadRow("not all are steady rows")
    if common_takes(rows) > MOST_COMMON:
        raise BadRow(f"the common multiple of what the groups take is above {MOST_COMMON}")


def check_loops(rows, loops):
    """Raises BadSize, if a thing is no number of loops, and NotOut, if a row does not fit it."""
    if not is_size(loops):
        raise BadSize("not an integer from 0 on")
    for place, row in enumerate(rows):
        why = misfit(row, loops)
        if why is not None:
            raise NotOut(place, why)


def is_steady(thing):
    """Whether a thing is a row each of whose cells makes as many loops as it takes, one at least."""
    if not is_row(thing):
        return False
    return all([KINDS[kind][0] == KINDS[kind][1] > 0 for word in thing for kind, _ in word])


def common_takes(rows):
    """The least common multiple of what the groups of rows take."""
    common = 1
    for row in rows:
        if row[1]:
            common = lcm(common, takes(row[1]))
    return common


def round_of(rows, way):
    """The rows of a round, which begins again at the same side."""
    return rows * 2 if way == "flat" and len(rows) % 2 == 1 else rows


def sent_by_round(rows, loops, way):
    """What sent returns, of rows that fit so many loops."""
    places = list(range(loops))
    for done, row in enumerate(round_of(rows, way)):
        targets = targets_of(look_worked(row, loops, way, done))
        places = [targets[place] for place in places]
    return places


def targets_of(look):
    """The list that has for each loop below a look where the look sends it."""
    targets = []
    for kind, _ in look:
        first = len(targets)
        many = KINDS[kind][0]
        # Both halves change places; of one loop alone the second half is all.
        half = many // 2
        targets.extend(list(range(first + half, first + many)))
        targets.extend(list(range(first, first + half)))
    return targets


def cycle_lengths(targets):
    """The list of the numbers of rounds after which loops are back, one for all loops that take each other's places."""
    seen = [False] * len(targets)
    lengths = []
    for first in range(len(targets)):
        place = first
        length = 0
        while not seen[place]:
            seen[place] = True
            place = targets[place]
            length = length + 1
        if length > 0:
            lengths.append(length)
    return lengths


def is_back(rows, loops, rounds, way):
    """Whether all rows fit so many loops, and each loop is where it was after so many rounds."""
    if not all([misfit(row, loops) is None for row in rows]):
        return False
    return all([rounds % length == 0 for length in cycle_lengths(sent_by_round(rows, loops, way))])


def start_of_likeness(rows, many, common):
    """A number of loops from which on is_back tells the same for common loops more, if so many rows are worked.

    Each loop is far from before and after of all rows at one edge at least: it goes the same way as the loop that
    stands as far from the other edge, where there are common loops more.
    """
    ends = max([max(takes(row[0]), takes(row[2])) for row in rows])
    return 2 * ends + 2 * FARTHEST * many + common
