"""Rows, and pieces: instructions of rows and blocks of rows."""

from math import lcm

from allstitches.errors import BadPiece
from allstitches.kinds import behind, is_word, makes, takes
from allstitches.lines import is_line

MOST_BEFORE = 60
MOST_GROUP = 30
MOST_AFTER = 60
MOST_PARTS = 40
MOST_ROWS = 20
MOST_CHANGE = 12
MOST_MEASURE = 120
MOST_GROWTH = 12


def is_row(thing):
    """Whether a thing is a tuple of three words that are a row."""
    if not isinstance(thing, tuple) or len(thing) != 3:
        return False
    if not all([is_word(word) for word in thing]):
        return False
    before, group, after = thing
    if len(before) > MOST_BEFORE or len(group) > MOST_GROUP or len(after) > MOST_AFTER:
        return False
    if not group:
        return not after
    return takes(group) > 0


def needs(row):
    """How many loops before and after of a row take together."""
    return takes(row[0]) + takes(row[2])


def gain(row):
    """How many loops more before and after of a row make than they take."""
    return makes(row[0]) + makes(row[2]) - needs(row)


def gain_of(rows):
    """How many loops more before and after of all rows make than they take."""
    return sum([gain(row) for row in rows])


def reversed_row(row, change):
    """The row of words that a function changes, which reverses them: behind or mirrored_word."""
    before, group, after = row
    if not group:
        return (change(before), (), ())
    return (change(after), change(group), change(before))


def back_row(row):
    """The row that looks from the right side as a row does from the wrong side."""
    return reversed_row(row, behind)


def are_repeatable(thing):
    """Whether a thing is a tuple of rows that may be the rows of a block."""
    if not isinstance(thing, tuple) or not 1 <= len(thing) <= MOST_ROWS:
        return False
    if not all([is_row(row) for row in thing]):
        return False
    if not all([takes(row[1]) == makes(row[1]) for row in thing]):
        return False
    return -MOST_CHANGE <= gain_of(thing) <= MOST_CHANGE


def is_part(thing):
    """Whether a thing is a row or a block, as a part of a piece."""
    if not isinstance(thing, tuple) or not thing or not isinstance(thing[0], str):
        return False
    if thing[0] == "row":
        return len(thing) == 2 and is_row(thing[1])
    return thing[0] == "block" and len(thing) == 3 and is_line(thing[1]) and are_repeatable(thing[2])


def rows_of(part):
    """The tuple of the rows of a part, each once."""
    if part[0] == "row":
        return (part[1],)
    return part[2]


def groups_of(parts):
    """The list of the groups of all rows of parts that have one."""
    return [row[1] for part in parts for row in rows_of(part) if row[1]]


def measure_of(parts):
    """The measure of a piece with these parts."""
    measure = 2
    for part in parts:
        if part[0] == "block":
            many = len(part[2])
            measure = lcm(measure, 4 * many if many % 2 else 2 * many)
    parted = 1
    common = 1
    for group in groups_of(parts):
        common = lcm(common, takes(group))
        if takes(group) != makes(group):
            parted = parted * takes(group)
    return lcm(measure, parted * common)


def growth_of(parts):
    """The growth of a piece with these parts."""
    growth = 1
    for group in groups_of(parts):
        if makes(group) > takes(group):
            growth = growth * makes(group)
    return growth


class Piece:
    """An instruction: how it is worked, what is cast on, and its parts."""

    def __init__(self, way, cast, parts):
        check_piece(way, cast, parts)
        self.way = way
        self.cast = cast
        self.parts = parts


def copied(piece):
    """A piece that is like another one."""
    return Piece(piece.way, piece.cast, piece.parts)


def check_piece(way, cast, parts):
    """Raises BadPiece, if these three do not make a piece."""
    if not isinstance(way, str) or way not in ("flat", "round") or not is_line(cast):
        raise BadPiece(None)
    if not isinstance(parts, tuple) or len(parts) > MOST_PARTS:
        raise BadPiece(None)
    for position, part in enumerate(parts):
        if not is_part(part):
            raise BadPiece(position)
    if measure_of(parts) > MOST_MEASURE or growth_of(parts) > MOST_GROWTH:
        raise BadPiece(None)
