"""Pieces repaired by a change of what is cast on, so that all wanted sizes come out."""

from allstitches.lines import is_line
from allstitches.pieces import Piece
from allstitches.wanting import check_wanted, first_missing, is_missing

MOST_CHANGE = 4


class Repair:
    """The first change with which all wanted sizes come out, and for each one in front a size that does not."""

    def __init__(self, change, against):
        self.change = change
        self.against = {other: against[other] for other in against}

    def __bool__(self):
        return True

    def shows(self, piece, wanted):
        """Whether it is so for a piece and wanted sizes."""
        check_wanted(wanted)
        changes = changes_of(piece)
        if self.change not in changes or first_missing(recast(piece, self.change), wanted) is not None:
            return False
        return are_against(self.against, changes[:changes.index(self.change)], piece, wanted)


class Beyond:
    """For each change a wanted size that does not come out with it."""

    def __init__(self, against):
        self.against = {change: against[change] for change in against}

    def __bool__(self):
        return False

    def shows(self, piece, wanted):
        """Whether it is so for a piece and wanted sizes."""
        check_wanted(wanted)
        return are_against(self.against, changes_of(piece), piece, wanted)


def repair(piece, wanted):
    """The Repair of a piece, by the first change with which all wanted sizes come out; Beyond, if there is none."""
    check_wanted(wanted)
    against = {}
    for change in changes_of(piece):
        missing = first_missing(recast(piece, change), wanted)
        if missing is None:
            return Repair(change, against)
        against[change] = missing
    return Beyond(against)


def recast(piece, change):
    """The piece with a change of what is cast on."""
    return Piece(piece.way, changed_line(piece.cast, change), piece.parts)


def changed_line(line, change):
    """The pair of both numbers of a line with a change, perhaps no line."""
    return (line[0] + change[0], line[1] + change[1])


def changes_of(piece):
    """The list of all changes with which the line of a piece's cast stays one, in their order."""
    numbers = range(-MOST_CHANGE, MOST_CHANGE + 1)
    ordered = sorted([(abs(base) + abs(rise), base, rise) for base in numbers for rise in numbers])
    changes = [(base, rise) for many, base, rise in ordered if many <= MOST_CHANGE]
    return [change for change in changes if is_line(changed_line(piece.cast, change))]


def are_against(against, changes, piece, wanted):
    """Whether a dict has just these changes as keys, and for each one a wanted size that does not come out with it."""
    if len(against) != len(changes) or not all([change in against for change in changes]):
        return False
    return all([is_missing(recast(piece, change), wanted, against[change]) for change in changes])
