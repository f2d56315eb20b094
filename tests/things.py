"""Cells, rows and pieces for the tests, and knitting done stitch by stitch to compare with."""

import random

from allstitches.errors import BadPiece
from allstitches.kinds import KINDS
from allstitches.pieces import Piece

# Values of many kinds, none of which is a kind, a cell, a word, a row, a line or a size.
ODD_THINGS = [
    None, True, False, -1, 1.0, -0.5, 2j, "", "K", "kk", " k", "row", b"k", [], {}, {"k": 1}, set(), frozenset(),
    range(3), object(), int, len, [1, 2], ["k", "a"], [("k", "a")], (None,), (1,), (1, 2, 3), ("k",),
    ("k", "a", "b"), ({},), ([],), float("nan"), Ellipsis, NotImplemented, lambda: 0,
]

K = ("k", "a")
P = ("p", "a")
YO = ("yo", "a")
BO = ("bo", "a")
TOG = ("k2tog", "a")
KFB = ("kfb", "a")
CDD = ("cdd", "a")
CABLE = ("c4f", "a")


def row(before=(), group=(), after=()):
    return (tuple(before), tuple(group), tuple(after))


def part(*words):
    return ("row", row(*words))


def block(line, *rows):
    return ("block", line, tuple(rows))


def flat(cast, *parts):
    return Piece("flat", cast, tuple(parts))


def ring(cast, *parts):
    return Piece("round", cast, tuple(parts))


def knit(piece, size):
    """Works a piece row by row: the loops before each row, those behind, and the trouble, by the words of [3], [7]."""
    def at(line):
        return line[0] + size * line[1]

    def count(word, which):
        return sum(KINDS[cell[0]][which] for cell in word)

    loops, before, done = at(piece.cast), [], 0
    if loops < 0:
        return before, loops, (0, "cast")
    for one in piece.parts:
        times, rows = (1, (one[1],)) if one[0] == "row" else (at(one[1]), one[2])
        if times < 0:
            return before, loops, (done, "times")
        for _ in range(times):
            for first, group, after in rows:
                before.append(loops)
                least = count(first, 0) + count(after, 0)
                if loops < least:
                    return before, loops, (done, "few")
                if not group and loops > least:
                    return before, loops, (done, "left")
                turns, rest = divmod(loops - least, count(group, 0)) if group else (0, 0)
                if rest:
                    return before, loops, (done, "parts")
                loops = count(first, 1) + turns * count(group, 1) + count(after, 1)
                done += 1
    return before, loops, None


def cloth_at(piece, size):
    """The looks of the rows of a size, by the words of [8], None if it does not come out."""
    before, _, why = knit(piece, size)
    if why is not None:
        return None
    rows = []
    for one in piece.parts:
        rows += [one[1]] if one[0] == "row" else list(one[2]) * (one[1][0] + one[1][1] * size)
    looks = []
    for (first, group, after), loops in zip(rows, before):
        word = first
        while sum(KINDS[kind][0] for kind, _ in word + after) < loops:
            word += group
        word += after
        if piece.way == "flat" and len(looks) % 2:
            word = tuple((KINDS[kind][2], yarn) for kind, yarn in reversed(word))
        looks.append(word)
    return looks


def flipped(word, which):
    """The back of a word (2), or its mirror image (3)."""
    return tuple((KINDS[kind][which], yarn) for kind, yarn in reversed(word))


def told(sizes):
    return (sizes.early, sizes.start, sizes.period, sizes.later)


def random_piece(dice):
    """A piece that comes out at some sizes more often than a blind one."""
    while True:
        cast = (dice.randint(-6, 40), dice.choice([0, 1, 1, 2, 3, 4, -1, -3]))
        parts = tuple(random_part(dice) for _ in range(dice.randint(0, 4)))
        try:
            return Piece(dice.choice(["flat", "round"]), cast, parts)
        except BadPiece:
            pass


def random_part(dice):
    if dice.random() < 0.6:
        return ("row", random_row(dice, "k p k2tog kfb cdd yo bo".split()))
    line = (dice.randint(-3, 9), dice.choice([0, 0, 1, 2, -1, -2]))
    return ("block", line, tuple(random_row(dice, None) for _ in range(dice.choice([1, 1, 2, 3]))))


def random_row(dice, kinds):
    def word(names, most):
        return tuple((dice.choice(names), "a") for _ in range(dice.randint(0, most)))

    ends = "k p k2tog kfb yo bo".split()
    if dice.random() < 0.15:
        return (word(ends, 5), (), ())
    while True:
        group = word(kinds or ["k", "c2f", "p"], 3)
        if kinds is None and dice.random() < 0.3:
            group = (("k2tog", "a"), ("yo", "a"))
        if sum(KINDS[kind][0] for kind, _ in group):
            return (word(ends, 2), group, word(ends, 2))


def dice(seed):
    return random.Random(seed)


def by_another(piece, line):
    """The piece whose lines have another line in the place of the size, None if one of them is no line then."""
    def put(old):
        return (old[0] + old[1] * line[0], old[1] * line[1])

    lines = [put(piece.cast)] + [put(one[1]) for one in piece.parts if one[0] == "block"]
    if any(abs(base) > 99 or abs(rise) > 9 for base, rise in lines):
        return None
    parts = [("block", put(one[1]), one[2]) if one[0] == "block" else one for one in piece.parts]
    return Piece(piece.way, lines[0], tuple(parts))


def edge_at(piece, edge, size):
    """How many loops or rows an edge has at a size, by working all rows; None if it does not come out."""
    before, last, why = knit(piece, size)
    if why is not None:
        return None
    return {"cast": piece.cast[0] + piece.cast[1] * size, "end": last, "side": len(before)}[edge]
