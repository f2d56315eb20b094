"""Pieces that are joined, and parted."""

from allstitches.counting import last_loops, loops_by_part, rows_worked
from allstitches.errors import BadPiece, NoPart, NotWritten
from allstitches.integers import is_size
from allstitches.lines import is_line
from allstitches.measures import where_zero
from allstitches.pieces import Piece


def joined(one, two):
    """The piece that works the parts of one piece and, behind them, those of another one."""
    if one.way != two.way:
        raise BadPiece(None)
    return Piece(one.way, one.cast, one.parts + two.parts)


def parted(piece, part):
    """The pair of the pieces with the parts in front of a position, and with those from there on."""
    if not is_size(part) or part > len(piece.parts):
        raise NoPart("no position of a part, and not behind the last one")
    loops = loops_by_part(piece)[part]
    cast = (loops.base, loops.rise)
    if loops.below != 1 or not is_line(cast):
        raise NotWritten(part)
    return (Piece(piece.way, piece.cast, piece.parts[:part]), Piece(piece.way, cast, piece.parts[part:]))


def where_goes_on(one, two):
    """The set of the sizes at which both pieces come out, and the second one can go on where the first one ends."""
    spare = last_loops(one).plus(-two.cast[0], -two.cast[1])
    # Flat, the second piece begins from the right side only behind an even number of rows.
    return where_zero([one, two], [spare], [rows_worked(one).times(1, 2)] if one.way == "flat" else [])
