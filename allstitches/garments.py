"""Garments: named pieces, and seams between their edges."""

from allstitches.counting import trouble
from allstitches.edits import check_edit, edited_all
from allstitches.faults import BadName, NoPiece, NothingDone
from allstitches.measures import are_at, check_measures, where_zero
from allstitches.pieces import Piece, copied
from allstitches.sameness import compare
from allstitches.seams import seam_gap, where_seam
from allstitches.words import is_digit, is_letter
from allstitches.yarn import amount, check_what, constant

MOST_SIGNS = 12


class Garment:
    """Named pieces, the seams between them, and the edits that were made.

    What it holds is not modified, but something new put in its place, so that a draft can go back.
    """

    MOST = 12

    def __init__(self, **pieces):
        self._pieces = {}
        self._seams = ()
        # For each name the pairs of edits that were made by one call, and the piece ahead of them.
        self._made = {}
        for name, piece in pieces.items():
            self[name] = piece

    def __getitem__(self, at):
        if at not in self:
            raise NoPiece(at)
        return copied(self._pieces[at])

    def __setitem__(self, at, worth):
        if not is_name(at) or not isinstance(worth, Piece) or at not in self and len(self) >= self.MOST:
            raise BadName(at)
        self._put(at, copied(worth), ())

    def __contains__(self, x):
        return isinstance(x, str) and x in self._pieces

    def __len__(self):
        return len(self._pieces)

    def __iter__(self):
        raise TypeError("a garment is gone through by its names, or its pairs")

    @property
    def names(self):
        """The ascending list of the names."""
        return sorted(list(self._pieces))

    @property
    def seams(self):
        """The tuple of all seams, as quadruples of a name and an edge, and another name and its edge."""
        return self._seams

    def pairs(self):
        """The pairs of a name and its piece, by ascending names."""
        for name in sorted(list(self._pieces)):
            yield name, copied(self._pieces[name])

    def sew(self, name, edge, other, other_edge):
        """Puts a seam behind the others, and returns the sizes at which it fits."""
        found = where_seam(self._piece(name), edge, self._piece(other), other_edge)
        self._seams = self._seams + ((name, edge, other, other_edge),)
        return found

    def unpick(self):
        """Takes the last seam away, and returns it."""
        if not self._seams:
            raise NothingDone("there is no seam")
        last = self._seams[-1]
        self._seams = self._seams[:-1]
        return last

    def out(self):
        """The set of the sizes at which all pieces come out and all seams fit."""
        pieces = self._checked()
        return where_zero(pieces, [self._gap(seam) for seam in self._seams], [])

    def hindering(self, size):
        """The list of the names of pieces that do not come out at a size, and that of the seams that do not fit."""
        self._checked()
        names = [name for name in self.names if trouble(self._pieces[name], size) is not None]
        places = [place for place, seam in enumerate(self._seams) if not self._fits(seam, size)]
        return (names, places)

    def edit(self, name, *edits):
        """Makes edits, if the piece then is the same at all sizes, and returns the verdict on this."""
        piece = self._piece(name)
        for edit in edits:
            check_edit(edit)
        found = edited_all(piece, edits)
        verdict = compare(piece, found)
        if edits and verdict.is_same:
            self._put(name, found, self._made[name] + ((edits, piece),))
        return verdict

    def undo(self, name):
        """Takes back the last edits that were made by one call, and returns them."""
        self._piece(name)
        if not self._made[name]:
            raise NothingDone("there are no edits")
        edits, piece = self._made[name][-1]
        self._put(name, piece, self._made[name][:-1])
        return edits

    def cells(self, what):
        """The sum of the amounts of all pieces."""
        check_what(what)
        total = constant(0)
        for name in self.names:
            total = total.plus(amount(self._pieces[name], what))
        return total

    def draft(self):
        """What a with statement does work on the garment in, which is taken back if it ends by an error."""
        return Draft(self)

    def attempt(self, deed):
        """What a function returns, that is called with the garment, in a draft."""
        with self.draft() as same:
            return deed(same)

    @classmethod
    def joined(cls, *garments):
        """The garment with the pieces of several, and all their seams."""
        made = cls()
        for garment in garments:
            for name in garment.names:
                made[name] = garment[name]
            made._seams = made._seams + garment.seams
        return made

    def _piece(self, name):
        if name not in self:
            raise NoPiece(name)
        return self._pieces[name]

    def _put(self, name, piece, made):
        self._pieces = {**self._pieces, name: piece}
        self._made = {**self._made, name: made}

    def _checked(self):
        pieces = [self._pieces[name] for name in self.names]
        check_measures(pieces)
        return pieces

    def _gap(self, seam):
        name, edge, other, other_edge = seam
        return seam_gap(self._pieces[name], edge, self._pieces[other], other_edge)

    def _fits(self, seam, size):
        return are_at([self._pieces[seam[0]], self._pieces[seam[2]]], [self._gap(seam)], [], size)


class Draft:
    """Work on a garment, which is as it was at its beginning again, if the work ends by an error."""

    def __init__(self, garment):
        self._garment = garment
        self._keep()

    def _keep(self):
        self._pieces = self._garment._pieces
        self._seams = self._garment._seams
        self._made = self._garment._made

    def __enter__(self):
        self._keep()
        return self._garment

    def __exit__(self, kind, value, trace):
        garment = self._garment
        if kind is not None:
            garment._pieces = self._pieces
            garment._seams = self._seams
            garment._made = self._made


def is_name(thing):
    """Whether a thing is a name for a piece: at most 12 letters from a to z and digits, a letter first."""
    if not isinstance(thing, str) or not 1 <= len(thing) <= MOST_SIGNS:
        return False
    return is_letter(thing[0]) and all([is_letter(sign) or is_digit(sign) for sign in thing])
