"""How many cells the cloth of a piece has, as polynomials of the size."""

from math import gcd

from allstitches.counting import fits_of_round, loops_by_part, turns_of
from allstitches.errors import TooLong
from allstitches.faults import BadCount
from allstitches.integers import is_whole
from allstitches.kinds import is_kind, is_yarn, takes
from allstitches.measures import Together, check_measures
from allstitches.pieces import gain_of
from allstitches.spans import gathered, without

# From the size behind this one on an amount is above 0 at all sizes, or at none; else it is too long.
LAST_TURN = 5040


class Amount:
    """The polynomial (base + rise * s + curve * s * s) / below of the size s, in lowest terms."""

    def __init__(self, base, rise, curve, below):
        # The sign of shared is that of below, which so becomes positive.
        shared = gcd(base, rise, curve, below) if below > 0 else -gcd(base, rise, curve, below)
        self.base = base // shared
        self.rise = rise // shared
        self.curve = curve // shared
        self.below = below // shared

    def at(self, size):
        """The value at a size, rounded down."""
        return value_at(self.base, self.rise, self.curve, size) // self.below

    def told(self):
        """The four integers."""
        return (self.base, self.rise, self.curve, self.below)

    def plus(self, other, factor=1):
        """The sum with another Amount times an integer."""
        mine, more = other.below, factor * self.below
        return Amount(self.base * mine + other.base * more, self.rise * mine + other.rise * more,
                      self.curve * mine + other.curve * more, self.below * other.below)

    def times(self, above, below):
        """The product with the fraction above / below."""
        return Amount(self.base * above, self.rise * above, self.curve * above, self.below * below)

    def where_positive(self):
        """The set of the sizes at which it is above 0."""
        return gathered([positive_spans(self)], [])


def amount(piece, what):
    """The Amount of what is counted in the cloth of a piece, right at the sizes that come out."""
    check_what(what)
    total = constant(0)
    for part, loops in zip(piece.parts, loops_by_part(piece)):
        for row, before in fits_of_round((part[1],) if part[0] == "row" else part[2], loops):
            once = amount_once(row, before, what)
            total = total.plus(once if part[0] == "row" else amount_often(once, part, row, what))
    return total


def where_more(one, other, what):
    """The set of the sizes that come out in both pieces, at which the first one has more of what is counted."""
    spare = amount(one, what).plus(amount(other, what), -1)
    check_measures([one, other])
    return Together([one, other], []).sizes_in(positive_spans(spare))


def where_most(piece, what, most):
    """The set of the sizes that come out with at most so many of what is counted."""
    check_what(what)
    if not is_whole(most):
        raise BadCount("most is not an integer")
    spare = amount(piece, what).plus(constant(-most))
    return Together([piece], []).sizes_in(without(0, None, positive_spans(spare)))


def check_what(what):
    """Raises BadCount, if a thing can't be counted."""
    if isinstance(what, str) and what == "all":
        return
    if not isinstance(what, tuple) or len(what) != 2 or not isinstance(what[0], str):
        raise BadCount("not what can be counted")
    if not (what[0] == "kind" and is_kind(what[1]) or what[0] == "yarn" and is_yarn(what[1])):
        raise BadCount("not what can be counted")


def counted(word, what):
    """How many cells of a word are counted."""
    if what == "all":
        return len(word)
    place = 0 if what[0] == "kind" else 1
    return len([cell for cell in word if cell[place] == what[1]])


def constant(number):
    """The Amount that is a number at all sizes."""
    return Amount(number, 0, 0, 1)


def amount_once(row, loops, what):
    """The Amount for a row, told the Ratio of the loops before it."""
    ends = constant(counted(row[0] + row[2], what))
    if not row[1]:
        return ends
    turns = turns_of(row, loops)
    return ends.plus(Amount(turns.base, turns.rise, 0, turns.below), counted(row[1], what))


def amount_often(once, block, row, what):
    """The Amount for all rounds of a row of a block, told that for the first round."""
    base, rise = block[1]
    # The first round's, times the line; it has no curve.
    total = Amount(once.base * base, once.base * rise + once.rise * base, once.rise * rise, once.below)
    if not row[1]:
        return total
    # What the rounds behind have more than the first one: one step, two steps, and so on.
    steps = Amount(base * base - base, 2 * base * rise - rise, rise * rise, 2)
    return total.plus(steps.times(gain_of(block[2]) * counted(row[1], what), takes(row[1])))


def value_at(base, rise, curve, size):
    """The value of a polynomial at a size."""
    return base + rise * size + curve * size * size


def least_from(base, rise, curve, first):
    """The least value of a polynomial at sizes from a first one on, None if there is no least one."""
    if curve < 0 or curve == 0 and rise < 0:
        return None
    # The least value is at the first size, or beside the turning point.
    turn = first if curve == 0 else max(first, -rise // (2 * curve))
    return min([value_at(base, rise, curve, size) for size in (turn, turn + 1)])


def is_settled(told, first):
    """Whether an Amount is above 0 at all sizes from a first one on, or at none of them."""
    least = least_from(told.base, told.rise, told.curve, first)
    if least is not None and least > 0:
        return True
    greatest = least_from(-told.base, -told.rise, -told.curve, first)
    return greatest is not None and greatest >= 0


def positive_spans(told):
    """The ascending list of the spans of the sizes at which an Amount is above 0."""
    flags = [value_at(told.base, told.rise, told.curve, size) > 0 for size in range(LAST_TURN + 2)]
    if not is_settled(told, LAST_TURN + 1) or flags[-1] and not flags[-2]:
        raise TooLong(f"the amount turns behind the size {LAST_TURN}")
    firsts = [size for size, flag in enumerate(flags) if flag and (size == 0 or not flags[size - 1])]
    lasts = [size for size, flag in enumerate(flags[:-1]) if flag and not flags[size + 1]]
    return list(zip(firsts, lasts + [None] * (len(firsts) - len(lasts))))
