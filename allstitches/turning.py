"""Pieces written again: flat or in the round, mirrored, inside out."""

from allstitches.errors import NotWritten
from allstitches.kinds import behind, mirrored_word
from allstitches.pieces import MOST_CHANGE, MOST_PARTS, MOST_ROWS, Piece, back_row, gain_of, reversed_row, rows_of
from allstitches.sameness import where_same


def turned(piece):
    """The piece of the other way that comes out at the same sizes with the same cloth."""
    written = []
    # From which side the next row of the flat piece is worked (0: the right one), if nothing turns it with the size.
    side = 0
    turns = False
    for position, part in enumerate(piece.parts):
        found = turned_part(part, side, turns)
        if found is None or len(written) + len(found) > MOST_PARTS:
            raise NotWritten(position)
        written.extend(found)
        base, rise = part[1] if part[0] == "block" else (1, 0)
        if len(rows_of(part)) % 2 == 1:
            side = (side + base) % 2
            turns = turns != (rise % 2 == 1)
    return Piece("round" if piece.way == "flat" else "flat", piece.cast, tuple(written))


def turned_part(part, side, turns):
    """The list of the parts in the place of a part, None if it hinders."""
    rows = rows_of(part)
    if all([back_row(row) == row for row in rows]):
        return [part]
    if turns:
        return None
    if part[0] == "row":
        return [("row", sided(rows, side)[0])]
    if len(rows) % 2 == 0:
        return [("block", part[1], sided(rows, side))]
    return two_rounds(part[1], rows, side)


def two_rounds(line, rows, side):
    """The list of the parts in the place of a block whose rounds begin from both sides in turns, None if it hinders."""
    base, rise = line
    if rise % 2 == 1 or 2 * len(rows) > MOST_ROWS or 2 * abs(gain_of(rows)) > MOST_CHANGE:
        return None
    both = sided(rows * 2, side)
    last = both[:len(rows)] if base % 2 == 1 else ()
    return [("block", (base // 2, rise // 2), both)] + [("row", row) for row in last]


def sided(rows, side):
    """The rows one behind the other, the first one from a side: backs in the place of those from the wrong side."""
    return tuple([back_row(row) if (side + place) % 2 == 1 else row for place, row in enumerate(rows)])


def mirrored(piece):
    """The piece all of whose rows are mirror images."""
    return reversed_piece(piece, mirrored_word)


def inside_out(piece):
    """The piece all of whose rows are backs."""
    return reversed_piece(piece, behind)


def reversed_piece(piece, change):
    """The piece all of whose rows have words that a function changes, which reverses them."""
    parts = []
    for part in piece.parts:
        rows = tuple([reversed_row(row, change) for row in rows_of(part)])
        parts.append(("block", part[1], rows) if part[0] == "block" else ("row", rows[0]))
    return Piece(piece.way, piece.cast, tuple(parts))


def where_centred(piece):
    """The set of the sizes that come out with a cloth of which each look is its own mirror image."""
    return where_same(piece, mirrored(piece))
