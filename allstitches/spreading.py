"""Gaps that are spread evenly, and pieces shaped by rows that are spread so."""

from allstitches.errors import BadRow
from allstitches.faults import BadGaps
from allstitches.integers import is_whole
from allstitches.kinds import makes, takes
from allstitches.pieces import Piece, is_row

MOST_TOTAL = 10000
MOST_GAPS = 60


class Even:
    """Gaps are the spread ones with the same sum, from that with the number shift on, and round."""

    def __init__(self, shift):
        self.shift = shift

    def __bool__(self):
        return True

    def shows(self, gaps):
        """Whether it is so for gaps."""
        check_gaps(gaps)
        return gaps == turned_gaps(gaps, self.shift)


class Uneven:
    """So many gaps as the width from one on have a sum greater by 2 at least than from other on."""

    def __init__(self, one, other, width):
        self.one = one
        self.other = other
        self.width = width

    def __bool__(self):
        return False

    def shows(self, gaps):
        """Whether it is so for gaps."""
        check_gaps(gaps)
        many = len(gaps)
        if not 0 <= self.one < many or not 0 <= self.other < many or not 1 <= self.width <= many:
            return False
        return stretch_sum(gaps, self.one, self.width) - stretch_sum(gaps, self.other, self.width) >= 2


def spread(total, parts):
    """The list of the gaps of a total that is spread evenly over so many parts."""
    if not is_gap(total):
        raise BadGaps(f"total is not an integer from 0 to {MOST_TOTAL}")
    if not is_whole(parts) or not 1 <= parts <= MOST_GAPS:
        raise BadGaps(f"parts is not an integer from 1 to {MOST_GAPS}")
    return spread_gaps(total, parts)


def judge_spread(gaps):
    """The Even of gaps in a ring, or the Uneven, if they are not even."""
    check_gaps(gaps)
    for shift in range(len(gaps)):
        if gaps == turned_gaps(gaps, shift):
            return Even(shift)
    return uneven_of(gaps)


def uneven_of(gaps):
    """The Uneven, with the least width, of gaps that are not the spread ones in any turn."""
    width = 0
    sums = [0]
    while max(sums) - min(sums) < 2:
        width = width + 1
        sums = [stretch_sum(gaps, first, width) for first in range(len(gaps))]
    return Uneven(sums.index(max(sums)), sums.index(min(sums)), width)


def schedule(rows, times):
    """The ascending list of the pairs of a gap and of how often it stands, for rows parted evenly into so many gaps."""
    if not is_gap(rows) or not is_gap(times) or not 1 <= times <= rows:
        raise BadGaps(f"not integers with 1 <= times <= rows <= {MOST_TOTAL}")
    gap, more = divmod(rows, times)
    return [(gap, times - more), (gap + 1, more)] if more > 0 else [(gap, times)]


def shaped(way, cast, plain, change, gaps):
    """The piece that works for each gap above 0 the plain row, once less than the gap tells, then the changed row."""
    check_gaps(gaps)
    if not is_row(plain) or not is_row(change):
        raise BadRow("no row")
    parts = []
    for gap in gaps:
        if gap > 0:
            parts.extend(plain_parts(plain, gap - 1))
            parts.append(("row", change))
    return Piece(way, cast, tuple(parts))


def plain_parts(row, times):
    """The list of the parts that work a row so many times."""
    if times > 1 and takes(row[1]) == makes(row[1]):
        return [("block", (times, 0), (row,))]
    return [("row", row)] * times


def is_gap(thing):
    """Whether a thing is an integer that a gap may be."""
    return is_whole(thing) and 0 <= thing <= MOST_TOTAL


def check_gaps(gaps):
    """Raises BadGaps, if a thing is no list of gaps, or one of too few or too many."""
    if not isinstance(gaps, list) or not 1 <= len(gaps) <= MOST_GAPS or not all([is_gap(gap) for gap in gaps]):
        raise BadGaps(f"not a list of 1 to {MOST_GAPS} integers from 0 to {MOST_TOTAL}")


def spread_gaps(total, parts):
    """What spread returns, for any total."""
    return [(k + 1) * total // parts - k * total // parts for k in range(parts)]


def turned_gaps(gaps, shift):
    """The spread gaps with the same number and sum as some gaps, from that with the number shift on, and round."""
    found = spread_gaps(sum(gaps), len(gaps))
    first = shift % len(gaps)
    return found[first:] + found[:first]


def stretch_sum(gaps, first, width):
    """The sum of so many neighbouring gaps in a ring, from a first one on."""
    return sum((gaps + gaps)[first:first + width])
