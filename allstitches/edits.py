"""Edits: small changes of the parts of a piece."""

from allstitches.errors import BadPiece
from allstitches.faults import BadEdit, NoEdit
from allstitches.integers import is_size, is_whole
from allstitches.lines import is_line
from allstitches.pieces import Piece, rows_of
from allstitches.rewriting import alike_rows
from allstitches.sameness import compare, where_same


def edited(piece, edit):
    """The piece behind an edit."""
    check_edit(edit)
    parts = parts_behind(piece.parts, edit)
    if parts is None:
        raise NoEdit(edit[0])
    try:
        return Piece(piece.way, piece.cast, parts)
    except BadPiece:
        raise NoEdit(edit[0]) from None


def edited_all(piece, edits):
    """The piece behind edits, one after the other."""
    for edit in edits:
        piece = edited(piece, edit)
    return piece


def where_kept(piece, edit):
    """The set of the sizes that come out with the same cloth before and behind an edit."""
    return where_same(piece, edited(piece, edit))


def keeps(piece, edit):
    """The Verdict on whether a piece is the same before and behind an edit."""
    return compare(piece, edited(piece, edit))


# In what follows, each edit is told the parts from its own one on, and what stands behind its part. It returns how many
# of the parts go, and the list of those that come in their place; None, if they are not as described for its kind.


def split_block(parts, things):
    """A block becomes two."""
    line = things[0]
    if not is_block(parts[0]) or not is_line(line):
        return None
    base, rise = parts[0][1]
    rows = parts[0][2]
    return (1, [("block", line, rows), ("block", (base - line[0], rise - line[1]), rows)])


def merge_blocks(parts, things):
    """Two blocks with the same rows become one."""
    if len(parts) == 1 or not is_block(parts[0]) or not is_block(parts[1]) or parts[0][2] != parts[1][2]:
        return None
    one, other = parts[0][1], parts[1][1]
    return (2, [("block", (one[0] + other[0], one[1] + other[1]), parts[0][2])])


def first_round(parts, things):
    """The rows of a block come in front of it."""
    if not is_block(parts[0]):
        return None
    return (1, single_rows(parts[0][2]) + [longer_block(parts[0], -1)])


def last_round(parts, things):
    """The rows of a block come behind it."""
    if not is_block(parts[0]):
        return None
    return (1, [longer_block(parts[0], -1)] + single_rows(parts[0][2]))


def gather_round(parts, things):
    """Rows in front of a block with just these become a round of it."""
    places = [place for place, part in enumerate(parts) if is_block(part)]
    if not places or list(parts[:places[0]]) != single_rows(parts[places[0]][2]):
        return None
    return (places[0] + 1, [longer_block(parts[places[0]], 1)])


def double_rows(parts, things):
    """A block has its rows twice, and half the line."""
    if not is_block(parts[0]):
        return None
    base, rise = parts[0][1]
    if base % 2 == 1 or rise % 2 == 1:
        return None
    return (1, [("block", (base // 2, rise // 2), parts[0][2] * 2)])


def turn_block(parts, things):
    """The rounds of a block begin with a later row."""
    by = things[0]
    if not is_block(parts[0]) or not is_whole(by) or not 1 <= by < len(parts[0][2]):
        return None
    first, later = parts[0][2][:by], parts[0][2][by:]
    base, rise = parts[0][1]
    return (1, single_rows(first) + [("block", (base - 1, rise), later + first)] + single_rows(later))


def alike_row(parts, things):
    """One of those that work alike comes in the place of a row."""
    place, number = things
    rows = rows_of(parts[0])
    if not is_size(place) or place >= len(rows):
        return None
    others = alike_rows(rows[place])
    if not is_size(number) or number >= len(others):
        return None
    rows = rows[:place] + (others[number],) + rows[place + 1:]
    return (1, [("block", parts[0][1], rows)] if is_block(parts[0]) else single_rows(rows))


def swap_parts(parts, things):
    """A part and the next one change places."""
    return (2, [parts[1], parts[0]]) if len(parts) > 1 else None


def drop_part(parts, things):
    """A part goes."""
    return (1, [])


# How many things each kind of edit needs, the position of its part among them, and what makes it.
THINGS = {"split": 2, "merge": 1, "first": 1, "last": 1, "gather": 1, "double": 1, "turn": 2, "alike": 3, "swap": 1,
          "drop": 1}
MAKERS = {"split": split_block, "merge": merge_blocks, "first": first_round, "last": last_round,
          "gather": gather_round, "double": double_rows, "turn": turn_block, "alike": alike_row, "swap": swap_parts,
          "drop": drop_part}


def check_edit(edit):
    """Raises BadEdit, if a thing is not a tuple of a kind and as many things as it needs."""
    if not isinstance(edit, tuple) or not edit or not isinstance(edit[0], str) or edit[0] not in THINGS:
        raise BadEdit("not a tuple with a kind of edits in front")
    if len(edit) != 1 + THINGS[edit[0]]:
        raise BadEdit("not as many things as the kind needs")


def parts_behind(parts, edit):
    """The tuple of the parts behind an edit, None if they are not as described for its kind."""
    kind, at = edit[0], edit[1]
    if not is_size(at) or at >= len(parts):
        return None
    maker = MAKERS[kind]
    found = maker(parts[at:], edit[2:])
    return None if found is None else parts[:at] + tuple(found[1]) + parts[at + found[0]:]


def is_block(part):
    """Whether a part is a block."""
    return part[0] == "block"


def single_rows(rows):
    """The list of the parts that are these rows."""
    return [("row", row) for row in rows]


def longer_block(block, more):
    """A block that is worked so many times more."""
    return ("block", (block[1][0] + more, block[1][1]), block[2])
