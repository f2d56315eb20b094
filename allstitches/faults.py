"""More errors of the program, one class for each kind of failure."""

from allstitches.errors import StitchError


class BadText(StitchError):
    """A text is not of the form that is read: line and column tell where, both 0 for what is no text."""

    def __init__(self, line, column):
        StitchError.__init__(self, f"not of the form, line: {line}, column: {column}")
        self.line = line
        self.column = column


class BadChart(StitchError):
    """No chart, or no signs for one."""


class BadTold(StitchError):
    """No numbers of loops with the words on them."""


class BadTable(StitchError):
    """No table of sizes."""


class BadEdge(StitchError):
    """Not the name of an edge, or not what is told of one."""


class BadCount(StitchError):
    """Not what can be counted, or no number for it."""


class NoCell(StitchError):
    """There is no such row, place or loop."""


class BadGaps(StitchError):
    """No gaps, or no rows that could be parted into some."""


class BadEdit(StitchError):
    """No edit."""


class NoEdit(StitchError):
    """An edit can't be made: kind is that of the edit."""

    def __init__(self, kind):
        StitchError.__init__(self, "an edit can't be made")
        self.kind = kind


class BadName(StitchError):
    """A name under which no piece can be kept."""

    def __init__(self, name):
        StitchError.__init__(self, "no name for a piece")
        self.name = name


class NoPiece(StitchError):
    """There is no piece with that name."""

    def __init__(self, name):
        StitchError.__init__(self, "no piece with the name")
        self.name = name


class NothingDone(StitchError):
    """There is nothing that could be taken back."""
