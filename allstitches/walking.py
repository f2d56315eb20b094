"""Two lists of runs, gone through side by side for many k together."""

from math import lcm


class Stretch:
    """Numbers k from low on up to high, None for no end, for all of which each question has had one answer.

    A question to which they have not all the same answer is answered for low, and ends the stretch earlier.
    """

    def __init__(self, low, high):
        self.low = low
        self.high = high

    def end_at(self, last):
        """Ends the stretch, if it goes further than to a last number."""
        if self.high is None or last < self.high:
            self.high = last

    def is_positive(self, base, rise):
        """Whether base + rise * k is above 0."""
        if base + rise * self.low > 0:
            if rise < 0:
                self.end_at((base - 1) // -rise)
            return True
        if rise > 0:
            self.end_at(-base // rise)
        return False

    def is_zero(self, base, rise):
        """Whether base + rise * k is 0."""
        if rise == 0:
            return base == 0
        if base + rise * self.low == 0:
            self.end_at(self.low)
            return True
        other = -base // rise
        if other > self.low and base + rise * other == 0:
            self.end_at(other - 1)
        return False


class Reader:
    """Runs, and a place in them: how many runs, and how many rows of the next one (a line in k), are passed."""

    def __init__(self, runs):
        self.runs = runs
        self.passed = 0
        self.base = 0
        self.rise = 0

    def is_done(self):
        """Whether all runs are passed."""
        return self.passed == len(self.runs)

    def rows_left(self):
        """How many rows of the run are left, a line in k."""
        run = self.runs[self.passed]
        return (run.base - self.base, run.rise - self.rise)

    def entries_now(self):
        """The entries of the run."""
        return self.runs[self.passed].entries

    def entry_behind(self, place, many):
        """The entry for each row that has many rows, times any number, and a place between itself and here."""
        entries = self.entries_now()
        each = len(entries)
        at = self.base + place
        look, base, rise, step = entries[at % each]
        return (look, base + step * (at // each), rise + step * (self.rise // each), step * (many // each))

    def go(self, many, to_end):
        """Passes so many rows of the run, a line in k, which are all that is left, or not."""
        if to_end:
            self.passed = self.passed + 1
            self.base = 0
            self.rise = 0
        else:
            self.base = self.base + many[0]
            self.rise = self.rise + many[1]


def first_unlike_row(looks, ones, others, stretch):
    """The first row in which two lists of runs differ, by its number at the low k, and how; None if they don't.

    The rises of their numbers of rows are multiples of the least common multiple of all numbers of entries.
    """
    one, other = Reader(ones), Reader(others)
    done = 0
    while not one.is_done() and not other.is_done():
        many, one_ends, other_ends = rows_side_by_side(one.rows_left(), other.rows_left(), stretch)
        found = first_unlike_of(looks, one, other, many, stretch)
        if found is not None:
            return (done + found[0], found[1])
        done = done + many[0] + many[1] * stretch.low
        one.go(many, one_ends)
        other.go(many, other_ends)
    return None if one.is_done() and other.is_done() else (done, "rows")


def rows_side_by_side(one, other, stretch):
    """The lesser of two numbers of rows, and whether it is the one, and the other one."""
    base, rise = one[0] - other[0], one[1] - other[1]
    if stretch.is_zero(base, rise):
        return (one, True, True)
    if stretch.is_positive(base, rise):
        return (other, False, True)
    return (one, True, False)


def first_unlike_of(looks, one, other, many, stretch):
    """The first of so many rows, from where two readers are, that are unlike, and how; None if they are alike."""
    each = lcm(len(one.entries_now()), len(other.entries_now()))
    found = []
    for place in range(each):
        rounds = (-((place - many[0]) // each), many[1] // each)
        if not stretch.is_positive(rounds[0], rounds[1]):
            break
        here, there = one.entry_behind(place, each), other.entry_behind(place, each)
        unlike = first_unlike_round(looks, here, there, rounds, stretch)
        if unlike is not None:
            found.append((place + unlike[0] * each, unlike[1]))
    return min(found, default=None)


def first_unlike_round(looks, here, there, rounds, stretch):
    """The first of so many rounds, one at least, in which two entries are unlike, and how; None if they are alike."""
    look, base, rise, step = here
    if not stretch.is_zero(base - there[1], rise - there[2]):
        return (0, "cells")
    lengths = looks.shared(look, there[0])
    if lengths is not None and not is_among(base, rise, lengths, stretch):
        return (0, "look")
    if step != there[3]:
        return (1, "cells") if stretch.is_positive(rounds[0] - 1, rounds[1]) else None
    if lengths is None or step == 0:
        return None
    # This ends, as the lengths are not the same from round to round, and only those told are shared.
    turn = 1
    while stretch.is_positive(rounds[0] - turn, rounds[1]):
        if not is_among(base + step * turn, rise, lengths, stretch):
            return (turn, "look")
        turn = turn + 1
    return None


def is_among(base, rise, numbers, stretch):
    """Whether base + rise * k is one of some numbers."""
    return any([stretch.is_zero(base - number, rise) for number in numbers])
