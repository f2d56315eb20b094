"""Tables of sizes, folded into one piece; and a piece at one size."""

from allstitches.errors import TooLong
from allstitches.faults import BadTable
from allstitches.integers import is_size
from allstitches.knitting import check_out, times_of
from allstitches.lines import is_line, line_at
from allstitches.pieces import Piece, copied, rows_of

MOST_SIZE = 1000


class Folded:
    """The piece that is at each size of a table the one of the table."""

    def __init__(self, piece):
        self.piece = copied(piece)

    def __bool__(self):
        return True

    def shows(self, table):
        """Whether it is so for a table."""
        check_table(table)
        return all([is_at(self.piece, size, single) for size, single in table.items()])


class Unfolded:
    """The place that bars the sizes of a table from being folded, and two or three of them that do it by themselves."""

    def __init__(self, place, sizes):
        self.place = place
        self.sizes = sizes

    def __bool__(self):
        return False

    def shows(self, table):
        """Whether it is so for a table."""
        check_table(table)
        if len(self.sizes) not in (2, 3) or not all([is_size(size) and size in table for size in self.sizes]):
            return False
        if not all([low < high for low, high in zip(self.sizes, self.sizes[1:])]):
            return False
        return place_of(table) == self.place == place_of({size: table[size] for size in self.sizes})


def fold(table):
    """The Folded of a table, or the Unfolded if there is no such piece."""
    check_table(table)
    found = first_bar(table)
    if found is not None:
        return Unfolded(found[0], found[1])
    sizes = sorted(list(table))
    pieces = [table[size] for size in sizes]
    many = len(pieces[0].parts)
    parts = [folded_part(sizes, [piece.parts[position] for piece in pieces]) for position in range(many)]
    return Folded(Piece(pieces[0].way, line_through(sizes, [piece.cast[0] for piece in pieces]), tuple(parts)))


def folded_part(sizes, parts):
    """The part that is at each of ascending sizes the one of some parts, which don't bar it."""
    if parts[0][0] == "row":
        return parts[0]
    return ("block", line_through(sizes, [part[1][0] for part in parts]), parts[0][2])


def at_size(piece, size):
    """The single piece that a piece is at a size that comes out."""
    check_out(piece, size)
    cast = number_line(line_at(piece.cast, size))
    parts = []
    for part in piece.parts:
        parts.append(("block", number_line(times_of(part, size)), part[2]) if part[0] == "block" else part)
    return Piece(piece.way, cast, tuple(parts))


def number_line(number):
    """The line that is a number at each size."""
    if not is_line((number, 0)):
        raise TooLong("a number that no line has")
    return (number, 0)


def check_table(table):
    """Raises BadTable, if a thing is no dict, not empty, from sizes to single pieces."""
    if not isinstance(table, dict) or not table:
        raise BadTable("not a dict with a size")
    for size, piece in table.items():
        if not is_size(size) or size > MOST_SIZE or not isinstance(piece, Piece) or not is_single_piece(piece):
            raise BadTable(f"not a size up to {MOST_SIZE} and a single piece")


def is_single_piece(piece):
    """Whether there is no rise in the lines of a piece."""
    return piece.cast[1] == 0 and all([part[0] == "row" or part[1][1] == 0 for part in piece.parts])


def is_at(piece, size, single):
    """Whether a piece is at a size a single one."""
    if piece.way != single.way or line_at(piece.cast, size) != single.cast[0] or len(piece.parts) != len(single.parts):
        return False
    for part, other in zip(piece.parts, single.parts):
        if part[0] != other[0] or rows_of(part) != rows_of(other) or times_of(part, size) != times_of(other, 0):
            return False
    return True


def place_of(table):
    """The place that bars the sizes of a table, None if nothing does."""
    found = first_bar(table)
    return None if found is None else found[0]


def first_bar(table):
    """The first place that bars the sizes of a table, and two or three of them that do it by themselves, or None."""
    sizes = sorted(list(table))
    pieces = [table[size] for size in sizes]
    found = unlike_sizes(sizes, [piece.way for piece in pieces])
    if found is None:
        found = sizes_off_line(sizes, [piece.cast[0] for piece in pieces])
    if found is not None:
        return (-1, found)
    for position in range(max([len(piece.parts) for piece in pieces])):
        found = unlike_sizes(sizes, [beside_line(piece, position) for piece in pieces])
        if found is None and pieces[0].parts[position][0] == "block":
            found = sizes_off_line(sizes, [times_of(piece.parts[position], 0) for piece in pieces])
        if found is not None:
            return (position, found)
    return None


def beside_line(piece, position):
    """What a piece has at a position, but for the line of a block; None if it has no part there."""
    if position >= len(piece.parts):
        return None
    part = piece.parts[position]
    return (part[0], rows_of(part))


def unlike_sizes(sizes, things):
    """The first size and another one at which things are not the same, None if they all are."""
    for size, thing in zip(sizes, things):
        if thing != things[0]:
            return (sizes[0], size)
    return None


def sizes_off_line(sizes, numbers):
    """Two or three of ascending sizes at which numbers don't go through a line, None if they all do."""
    line = line_through(sizes, numbers)
    if line is None:
        return (sizes[0], sizes[1])
    for size, number in zip(sizes, numbers):
        if line_at(line, size) != number:
            return (sizes[0], sizes[1], size)
    return None


def line_through(sizes, numbers):
    """The line through the numbers at the first two of ascending sizes, or at a single one; None if there is none."""
    if len(sizes) == 1:
        return (numbers[0], 0)
    wide = sizes[1] - sizes[0]
    rise = (numbers[1] - numbers[0]) // wide
    line = (numbers[0] - rise * sizes[0], rise)
    return line if rise * wide == numbers[1] - numbers[0] and is_line(line) else None
