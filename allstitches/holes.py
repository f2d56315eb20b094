"""Open pieces, with numbers left open, and the numbers with which wanted sizes come out."""

from allstitches.counting import last_loops
from allstitches.errors import BadPiece
from allstitches.faults import BadCount
from allstitches.integers import is_whole
from allstitches.kinds import is_cell
from allstitches.lines import is_line
from allstitches.pieces import MOST_PARTS, MOST_ROWS, Piece, rows_of
from allstitches.wanting import check_wanted, first_missing, is_missing

MOST_HOLES = 2
MOST_NUMBER = 6
# So many cells are too many in each place of a row: none are made beyond them.
TOO_MANY = 61


class Open:
    """A piece with holes: cells that come as many times as a number that is left open."""

    def __init__(self, way, cast, parts):
        check_open_parts(parts)
        self.way = way
        self.cast = cast
        self.parts = parts
        self._holes = tuple(holes_in(parts))

    @property
    def holes(self):
        """The ascending list of the holes."""
        return list(self._holes)

    def filled(self, numbers):
        """The piece with numbers for the holes, in their order."""
        told = {hole: number for hole, number in zip(self._holes, numbers)}
        return Piece(self.way, self.cast, tuple([filled_part(part, told) for part in self.parts]))

    def choices(self):
        """The list of all tuples of numbers that may be chosen for the holes, by their sums, then as tuples."""
        found = [()]
        for _ in self._holes:
            found = [choice + (number,) for choice in found for number in range(MOST_NUMBER + 1)]
        ordered = sorted([(sum(choice), choice) for choice in found])
        return [choice for _, choice in ordered]


class Filling:
    """The choices with which all wanted sizes come out, and what is against each of the others."""

    def __init__(self, good, against):
        self.good = list(good)
        self.against = {choice: against[choice] for choice in against}

    def __bool__(self):
        return bool(self.good)

    def shows(self, open_piece, wanted):
        """Whether it is so for an open piece and wanted sizes."""
        check_given(open_piece, wanted)
        good = good_choices(open_piece, wanted)
        others = [choice for choice in open_piece.choices() if choice not in good]
        if self.good != good or len(self.against) != len(others):
            return False
        return all([choice in self.against and is_against(open_piece, choice, wanted, self.against[choice])
                    for choice in others])


def fillings(open_piece, wanted):
    """The Filling of an open piece for wanted sizes."""
    check_given(open_piece, wanted)
    good = []
    against = {}
    for choice in open_piece.choices():
        piece = piece_with(open_piece, choice)
        missing = None if piece is None else first_missing(piece, wanted)
        if piece is None or missing is not None:
            against[choice] = missing
        else:
            good.append(choice)
    return Filling(good, against)


def ends_with(open_piece, wanted, loops):
    """The list of the good choices with which so many loops are left at all wanted sizes."""
    if not is_whole(loops):
        raise BadCount("loops is not an integer")
    check_given(open_piece, wanted)
    good = good_choices(open_piece, wanted)
    return [choice for choice in good if leaves(open_piece.filled(choice), wanted, loops)]


def check_given(open_piece, wanted):
    """Raises BadPiece, if a thing is no open piece, then BadSizes, if another one is not what may be wanted."""
    if not isinstance(open_piece, Open):
        raise BadPiece(None)
    check_wanted(wanted)


def good_choices(open_piece, wanted):
    """The list of the choices with which there is a piece, and all wanted sizes come out."""
    found = []
    for choice in open_piece.choices():
        piece = piece_with(open_piece, choice)
        if piece is not None and first_missing(piece, wanted) is None:
            found.append(choice)
    return found


def piece_with(open_piece, choice):
    """The piece with the numbers of a choice, None if there is none."""
    try:
        return open_piece.filled(choice)
    except BadPiece:
        return None


def is_against(open_piece, choice, wanted, told):
    """Whether a thing is against a choice: a wanted size that does not come out, or None, if there is no piece."""
    piece = piece_with(open_piece, choice)
    if piece is None or told is None:
        return piece is None and told is None
    return is_missing(piece, wanted, told)


def leaves(piece, wanted, loops):
    """Whether so many loops are left at all wanted sizes, which come out."""
    left = last_loops(piece)
    # A line has a value at one size alone, or at all sizes.
    return all([left.base + left.rise * size == loops * left.below for size in wanted.first(2)])


def is_hole(thing):
    """Whether a thing is a letter from A to Z."""
    return isinstance(thing, str) and len(thing) == 1 and "A" <= thing <= "Z"


def is_held(thing):
    """Whether a thing is a pair of a hole and a cell."""
    return isinstance(thing, tuple) and len(thing) == 2 and is_hole(thing[0]) and is_cell(thing[1])


def is_open_word(thing):
    """Whether a thing is a tuple of cells, and of pairs of a hole and a cell."""
    return isinstance(thing, tuple) and all([is_cell(item) or is_held(item) for item in thing])


def is_open_row(thing):
    """Whether a thing is a tuple of three open words."""
    return isinstance(thing, tuple) and len(thing) == 3 and all([is_open_word(word) for word in thing])


def is_open_part(thing):
    """Whether a thing is a row or a block, as a part of an open piece."""
    if not isinstance(thing, tuple) or not thing or not isinstance(thing[0], str):
        return False
    if thing[0] == "row":
        return len(thing) == 2 and is_open_row(thing[1])
    if thing[0] != "block" or len(thing) != 3 or not is_line(thing[1]) or not isinstance(thing[2], tuple):
        return False
    return 1 <= len(thing[2]) <= MOST_ROWS and all([is_open_row(row) for row in thing[2]])


def check_open_parts(parts):
    """Raises BadPiece, if a thing is no tuple of parts of an open piece, with one or two holes in all."""
    if not isinstance(parts, tuple) or len(parts) > MOST_PARTS or not all([is_open_part(part) for part in parts]):
        raise BadPiece(None)
    if not 1 <= len(holes_in(parts)) <= MOST_HOLES:
        raise BadPiece(None)


def holes_in(parts):
    """The ascending list of the holes in parts."""
    words = [word for part in parts for row in rows_of(part) for word in row]
    return sorted({item[0] for word in words for item in word if is_hole(item[0])})


def filled_part(part, told):
    """The part with numbers for the holes."""
    rows = tuple([tuple([filled_word(word, told) for word in row]) for row in rows_of(part)])
    return ("row", rows[0]) if part[0] == "row" else ("block", part[1], rows)


def filled_word(word, told):
    """The word with numbers for the holes."""
    cells = ()
    for item in word:
        cells = cells + ((item[1],) * min(told[item[0]], TOO_MANY) if is_hole(item[0]) else (item,))
    return cells
