"""Yarns: where they hang in flat pieces, and how many of them a look has."""

from math import lcm

from allstitches.avoiding import where_avoided
from allstitches.counting import Outs, out_sizes
from allstitches.knitting import times_of
from allstitches.pieces import rows_of
from allstitches.spans import gathered


def yarns_of(piece):
    """The ascending list of the yarns of the cells of a piece."""
    return yarns_in([word for part in piece.parts for row in rows_of(part) for word in row])


def yarns_in(words):
    """The ascending list of the yarns of the cells of words."""
    return sorted({yarn for word in words for _, yarn in word})


def where_hanging(piece):
    """The set of the sizes that come out, and at which each yarn hangs where the next row that uses it begins."""
    if piece.way == "round":
        return out_sizes(piece)
    outs = Outs(piece)
    goods = [is_hanging(piece, [times_like(part, rest) for part in piece.parts]) for rest in (0, 1)]
    period = lcm(2, len(outs.flags))
    flags = [outs.has_flag(rest) and goods[rest % 2] for rest in range(period)]
    others = [size for size in outs.scant_ones() if is_hanging(piece, [times_of(part, size) for part in piece.parts])]
    return gathered([[(outs.low, outs.high)] if flag else [] for flag in flags], others)


def times_like(part, rest):
    """How often a part is worked at some sizes with a rest modulo 2 that are not scant, as far as it counts for yarns.

    It counts whether it is not at all, once, or more often, and whether the number is even.
    """
    if part[0] == "row" or part[1][1] == 0:
        return times_of(part, 0)
    return 2 + times_of(part, rest) % 2


def is_hanging(piece, times):
    """Whether each yarn hangs where the next row that uses it begins, if each part is worked so many times."""
    worked = []
    for part, many in zip(piece.parts, times):
        # From the second round on each one begins as far from the last row that used a yarn as the one before.
        few = many if many < 2 else 2 + many % 2
        worked.extend([yarns_in(row) for row in rows_of(part)] * few)
    last = {}
    for place, yarns in enumerate(worked):
        for yarn in yarns:
            if (place - last.get(yarn, place - 1)) % 2 == 0:
                return False
            last[yarn] = place
    return True


def where_yarns(piece, most):
    """The set of the sizes that come out, and at which no look has more than so many yarns."""
    return where_avoided(piece, lambda row: motley_turns(row, most))


def motley_turns(row, most):
    """The list of the spans of the turns with which a row has more than so many yarns."""
    before, group, after = row
    if len(yarns_in([before, after])) > most:
        return [(0, None)]
    return [(1, None)] if len(yarns_in([before, group, after])) > most else []
