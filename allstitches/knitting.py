"""The cloth of one size, and needles on which rows are worked one by one."""

from allstitches.counting import count_behind, misfit, trouble
from allstitches.errors import BadSize, NotOut, TooLong
from allstitches.integers import is_size
from allstitches.kinds import behind, takes
from allstitches.lines import line_at
from allstitches.pieces import gain, needs, rows_of

MOST = 100000


def cloth(piece, size, /, *, most=MOST):
    """The list of the looks of the rows of a size that comes out."""
    rows = worked_rows(piece, size, most)
    cells = sum([len(row[0]) + len(row[2]) + turns_on(row, loops) * len(row[1]) for row, loops in rows])
    if len(rows) + cells > most:
        raise TooLong(f"rows and cells together are more than {most}")
    return [look_worked(row, loops, piece.way, done) for done, (row, loops) in enumerate(rows)]


def loops_at(piece, size):
    """The list of the loops before each row of a size that comes out, and behind the last one."""
    before = [loops for _, loops in worked_rows(piece, size, MOST)]
    return before + [loops_left(piece, size)]


def worked_rows(piece, size, most):
    """The list of the rows that are worked at a size, each with the loops before it."""
    check_out(piece, size)
    if sum([times_of(part, size) * len(rows_of(part)) for part in piece.parts]) > most:
        raise TooLong(f"more than {most} rows")
    found = []
    loops = line_at(piece.cast, size)
    for part in piece.parts:
        before = loops
        for row in rows_of(part) * times_of(part, size):
            found.append((row, before))
            before = before + gain(row)
        loops = count_behind(part, loops, times_of(part, size))
    return found


def check_out(piece, size):
    """Raises BadSize, if a size is none, and NotOut, if it does not come out."""
    if not is_size(size):
        raise BadSize("not an integer from 0 on")
    found = trouble(piece, size)
    if found is not None:
        raise NotOut(found[0], found[1])


def loops_left(piece, size):
    """The loops behind the last row at a size that comes out."""
    loops = line_at(piece.cast, size)
    for part in piece.parts:
        loops = count_behind(part, loops, times_of(part, size))
    return loops


def times_of(part, size):
    """How often the rows of a part are worked at a size."""
    return line_at(part[1], size) if part[0] == "block" else 1


def turns_on(row, loops):
    """How many turns a row has on loops that it fits."""
    return (loops - needs(row)) // takes(row[1]) if row[1] else 0


def look_worked(row, loops, way, done):
    """The look of a row on loops that it fits, behind so many rows that are done."""
    word = row[0] + row[1] * turns_on(row, loops) + row[2]
    return behind(word) if way == "flat" and done % 2 == 1 else word


class Needles:
    """Needles with loops, on which rows are worked one by one."""

    def __init__(self, loops, way="flat"):
        self.loops = loops
        self.done = []
        self._way = way
        self._looks = []

    def work(self, row):
        """Works a row that fits, and returns its look."""
        why = misfit(row, self.loops)
        if why is not None:
            raise NotOut(len(self._looks), why)
        look = look_worked(row, self.loops, self._way, len(self._looks))
        self.loops = count_behind(("row", row), self.loops, 1)
        self._looks.append(look)
        self.done = list(self._looks)
        return look
