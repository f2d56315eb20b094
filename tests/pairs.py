"""Pairs of pieces that are the same, or nearly so, for the tests."""

from math import lcm

from allstitches.counting import out_sizes
from allstitches.errors import BadPiece
from allstitches.kinds import KINDS
from allstitches.pieces import Piece, measure_of
from tests.things import cloth_at, random_piece


def plain_word(dice, most, yarns="a"):
    return tuple((dice.choice("kp"), dice.choice(yarns)) for _ in range(dice.randint(0, most)))


def plain_row(dice, yarns):
    """A row of few kinds: words of other rows often are the same at some lengths."""
    group = plain_word(dice, 3, yarns)
    if not group:
        return (plain_word(dice, 5, yarns), (), ())
    return (plain_word(dice, 4, yarns), group, plain_word(dice, 4, yarns))


def plain_piece(dice, yarns="a"):
    """A piece of knit and purl, whose blocks may take or make a few loops, and that comes out at some sizes."""
    while True:
        parts = []
        for _ in range(dice.randint(1, 3)):
            if dice.random() < 0.5:
                parts.append(("row", plain_row(dice, yarns)))
                continue
            rows = [plain_row(dice, yarns) for _ in range(dice.choice([1, 1, 2, 3]))]
            change = dice.choice([0, 0, 1, 2, -1, -2])
            ends = (("yo" if change > 0 else "bo", "a"),) * abs(change)
            rows[0] = (rows[0][0] + ends,) + rows[0][1:]
            parts.append(("block", (dice.randint(0, 3), dice.choice([0, 1, 1, 2, -1])), tuple(rows)))
        try:
            cast = (dice.randint(0, 20), dice.choice([0, 0, 1, 1, 2, 3]))
            piece = Piece(dice.choice(["flat", "round"]), cast, tuple(parts))
        except BadPiece:
            continue
        if out_sizes(piece):
            return piece


def alike_row(dice, row):
    """A row that works alike: some cells go over from before to behind the groups, or back."""
    before, group, after = row
    for _ in range(dice.randint(1, 3)):
        if group and before and before[-1] == group[-1] and dice.random() < 0.5:
            before, group, after = before[:-1], group[-1:] + group[:-1], group[-1:] + after
        elif group and after and after[0] == group[0]:
            before, group, after = before + group[:1], group[1:] + group[:1], after[1:]
    return (before, group, after)


def other_cut(dice, row):
    """A row whose word on some loops is the same, with another group."""
    before, group, after = row
    word = before + group * dice.randint(0, 4) + after
    many = dice.randint(1, 3)
    if not group or len(word) < many:
        return row
    begin = end = dice.randint(0, len(word) - many)
    while word[end:end + many] == word[begin:begin + many]:
        end += many
    return (word[:begin], word[begin:begin + many], word[end:])


def other_cell(dice, row):
    """A row with a cell of another kind, that takes and makes as much."""
    words = list(row)
    at = dice.choice([place for place in range(3) if words[place]] or [0])
    if words[at]:
        place = dice.randrange(len(words[at]))
        kind, yarn = words[at][place]
        kinds = [name for name in KINDS if KINDS[name][:2] == KINDS[kind][:2]]
        words[at] = words[at][:place] + ((dice.choice(kinds), dice.choice([yarn, "b"])),) + words[at][place + 1:]
    return tuple(words)


def group_twice(dice, row):
    return (row[0], row[1] * 2, row[2])


def changed_block(dice, line, rows):
    """A block told by other parts, which most often give the same."""
    base, rise = line
    way = dice.choice(["split", "first", "last", "turn", "double", "longer"])
    singles = [("row", row) for row in rows]
    if way == "split":
        less = (dice.randint(0, 3), dice.choice([0, 0, 1, rise]))
        return [("block", less, rows), ("block", (base - less[0], rise - less[1]), rows)]
    if way == "first":
        return singles + [("block", (base - 1, rise), rows)]
    if way == "last":
        return [("block", (base - 1, rise), rows)] + singles
    if way == "turn":
        by = dice.randrange(len(rows))
        return singles[:by] + [("block", (base - 1, rise), rows[by:] + rows[:by])] + singles[by:]
    if way == "double" and base % 2 == rise % 2 == 0:
        return [("block", (base // 2, rise // 2), rows * 2)]
    return [("block", (base + dice.choice([0, 1, -1]), rise + dice.choice([0, 0, 1, -1])), rows)]


def changed_parts(dice, parts, spoil):
    parts = list(parts)
    at = dice.randrange(len(parts))
    part = parts[at]
    if part[0] == "block" and dice.random() < 0.5:
        parts[at:at + 1] = changed_block(dice, part[1], part[2])
        return tuple(parts)
    rows = list(part[2]) if part[0] == "block" else [part[1]]
    place = dice.randrange(len(rows))
    change = dice.choice([alike_row, other_cut, other_cell, group_twice] if spoil else [alike_row])
    rows[place] = change(dice, rows[place])
    parts[at] = ("block", part[1], tuple(rows)) if part[0] == "block" else ("row", rows[0])
    return tuple(parts)


def variant(dice, piece):
    """A piece made of another one by some changes."""
    for _ in range(dice.randint(1, 4)):
        cast, way = piece.cast, piece.way
        if dice.random() < 0.05:
            cast = (cast[0] + dice.choice([-1, 1]), cast[1] + dice.choice([0, 1]))
        if dice.random() < 0.05:
            way = dice.choice(["flat", "round"])
        try:
            piece = Piece(way, cast, changed_parts(dice, piece.parts, dice.random() < 0.3) if piece.parts else ())
        except BadPiece:
            pass
    return piece


def random_pair(dice, most=840):
    """Two pieces with a common measure up to a limit."""
    while True:
        one = plain_piece(dice) if dice.random() < 0.7 else random_piece(dice)
        two = variant(dice, one)
        if lcm(measure_of(one.parts), measure_of(two.parts)) <= most:
            return one, two


def outcome(one, two, size):
    """What is at a size, as a kind and a row of [9]; "same" or "neither", if both are the same."""
    here, there = cloth_at(one, size), cloth_at(two, size)
    if here is None and there is None:
        return ("neither", None)
    if here is None or there is None:
        return ("out", None)
    for number, (look, other) in enumerate(zip(here, there)):
        if look != other:
            return ("look" if len(look) == len(other) else "cells", number)
    if len(here) != len(there):
        return ("rows", min(len(here), len(there)))
    return ("same", None)
