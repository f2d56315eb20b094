"""Pieces that are joined, and parted."""

from math import lcm

from allstitches.counting import Outs, last_loops, loops_by_part, trouble
from allstitches.errors import BadPiece, NoPart, NotWritten
from allstitches.integers import is_size
from allstitches.knitting import loops_left, times_of
from allstitches.lines import is_line, line_at
from allstitches.pieces import Piece, rows_of
from allstitches.sizes import Sizes, least_period
from allstitches.spans import gathered


def joined(one, two):
    """The piece that works the parts of one piece and, behind them, those of another one."""
    if one.way != two.way:
        raise BadPiece(None)
    return Piece(one.way, one.cast, one.parts + two.parts)


def parted(piece, part):
    """The pair of the pieces with the parts in front of a position, and with those from there on."""
    if not is_size(part) or part > len(piece.parts):
        raise NoPart("no position of a part, and not behind the last one")
    loops = loops_by_part(piece)[part]
    cast = (loops.base, loops.rise)
    if loops.below != 1 or not is_line(cast):
        raise NotWritten(part)
    return (Piece(piece.way, piece.cast, piece.parts[:part]), Piece(piece.way, cast, piece.parts[part:]))


def where_goes_on(one, two):
    """The set of the sizes at which both pieces come out, and the second one can go on where the first one ends."""
    left = last_loops(one)
    spare = left.plus(-two.cast[0], -two.cast[1])
    if spare.rise != 0:
        sizes = [-spare.base // spare.rise] if spare.base % spare.rise == 0 else []
        return finite([size for size in sizes if goes_on_at(one, two, size)])
    return where_both(one, two) if spare.base == 0 else finite([])


def finite(sizes):
    """The set of the sizes of an ascending list."""
    return Sizes(tuple(sizes), max(sizes, default=-1) + 1, 1, ())


def goes_on_at(one, two, size):
    """Whether a number is a size at which both pieces come out, and the second one can go on behind the first one."""
    if size < 0 or trouble(one, size) is not None or trouble(two, size) is not None:
        return False
    return loops_left(one, size) == line_at(two.cast, size) and ends_at_right_side(one, size)


def ends_at_right_side(piece, size):
    """Whether the row behind a piece is worked from the right side, at a size that comes out."""
    return piece.way == "round" or sum([times_of(part, size) * len(rows_of(part)) for part in piece.parts]) % 2 == 0


def where_both(one, two):
    """The set of where_goes_on, if the loops that are left are the line that is cast on."""
    outs, others = Outs(one), Outs(two)
    low = max(outs.low, others.low)
    high = min([end for end in (outs.high, others.high) if end is not None], default=None)
    sides = [ends_at_right_side(one, rest) for rest in (0, 1)]
    period = lcm(2, len(outs.flags), len(others.flags))
    flags = [outs.has_flag(rest) and others.has_flag(rest) and sides[rest % 2] for rest in range(period)]
    # The common period may be too great for a set, where the least one is not, or the sizes have an end.
    flags = flags[:least_period(flags)]
    scant = sorted(set(list(outs.scant) + list(others.scant)))
    found = [size for size in scant if goes_on_at(one, two, size)]
    if high is not None:
        return finite(sorted(found + [size for size in range(low, high + 1) if flags[size % len(flags)]]))
    return gathered([[(low, None)] if flag else [] for flag in flags], found)
