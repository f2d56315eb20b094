"""The errors of the program, one class for each kind of failure."""


class StitchError(ValueError):
    """Whatever the program refuses."""


class BadPiece(StitchError):
    """No piece: part is the position of the first part that is wrong, or None."""

    def __init__(self, part):
        StitchError.__init__(self, f"no piece, part: {part}")
        self.part = part


class BadRow(StitchError):
    """No row, or not the rows that are needed."""


class BadWord(StitchError):
    """No word, or a word that is too long."""


class BadSize(StitchError):
    """No size."""


class BadSizes(StitchError):
    """No set of sizes, or one whose period is too great."""


class BadLine(StitchError):
    """No line."""


class BadRounds(StitchError):
    """No number of rounds, or too many."""


class NotOut(StitchError):
    """A size does not come out: row tells how many rows are worked before, why the trouble."""

    def __init__(self, row, why):
        # A number of rows may be too great to be written.
        StitchError.__init__(self, f"does not come out, trouble: {why}")
        self.row = row
        self.why = why


class Never(StitchError):
    """No size comes out."""


class NoPart(StitchError):
    """There is no such part."""


class NotWritten(StitchError):
    """A piece can't be written: part is the position of the part that hinders."""

    def __init__(self, part):
        StitchError.__init__(self, f"can't be written, part: {part}")
        self.part = part


class TooLong(StitchError):
    """More than can be gone through."""
