"""The cloth of a piece as runs of rows, for all sizes rest + period * k together, told by k."""

from allstitches.counting import Outs
from allstitches.kinds import makes, takes
from allstitches.looks import look_of
from allstitches.pieces import back_row, gain, needs, rows_of


class Run:
    """Rows that come again and again, base + rise * k of them; entries tell those of one round.

    An entry (look, base, rise, step) tells the number of a look, with base + rise * k + step * y cells in round y.
    """

    def __init__(self, entries, base, rise):
        self.entries = shortest_round(entries)
        self.base = base
        self.rise = rise


def shortest_round(entries):
    """The fewest entries that tell the same rows."""
    many = len(entries)
    for each in range(1, many // 2 + 1):
        if many % each == 0 and are_repeated(entries, each):
            return [(look, base, rise, step * each // many) for look, base, rise, step in entries[:each]]
    return entries


def are_repeated(entries, each):
    """Whether entries tell so many rows, again and again."""
    many = len(entries)
    for (look, base, rise, step), later in zip(entries, entries[each:]):
        if step * each % many != 0 or later != (look, base + step * each // many, rise, step):
            return False
    return True


class Course:
    """A row, and what counts of it."""

    def __init__(self, row, looks):
        self.needs = needs(row)
        self.gain = gain(row)
        self.parted = takes(row[1])
        self.made = makes(row[0]) + makes(row[2])
        self.grown = makes(row[1])
        self.fixed = len(row[0]) + len(row[2])
        self.wide = len(row[1])
        self.sides = (looks.number_of(look_of(row)), looks.number_of(look_of(back_row(row))))

    def entry(self, loops, change, side):
        """The entry of the row on loops, a line in k, that change by so many from round to round."""
        if not self.parted:
            return (self.sides[side], self.fixed, 0, 0)
        base, rise = self.turns(loops)
        # It can be parted, if there is a second round.
        step = change // self.parted
        return (self.sides[side], self.fixed + base * self.wide, rise * self.wide, step * self.wide)

    def turns(self, loops):
        """The turns on loops, both lines in k."""
        # Where the row fits, the loops for the group can be parted, and so can their rise from k to k + 1.
        return ((loops[0] - self.needs) // self.parted, loops[1] // self.parted)

    def loops_made(self, loops):
        """The loops behind the row, as a single part, told those before it."""
        if not self.parted:
            return (self.made, 0)
        base, rise = self.turns(loops)
        return (self.made + base * self.grown, rise * self.grown)


class Stage:
    """A part of a piece: the line of a block, None for a single row, and its courses."""

    def __init__(self, part, looks):
        self.line = part[1] if part[0] == "block" else None
        self.courses = [Course(row, looks) for row in rows_of(part)]
        self.change = sum([course.gain for course in self.courses])

    def rounds_at(self, rest, period):
        """How often the rows are worked, a line in k."""
        if self.line is None:
            return (1, 0)
        return (self.line[0] + self.line[1] * rest, self.line[1] * period)

    def loops_behind(self, loops, times):
        """The loops behind the part, told those before it."""
        if self.line is None:
            return self.courses[0].loops_made(loops)
        return (loops[0] + self.change * times[0], loops[1] + self.change * times[1])

    def run(self, loops, times, sides):
        """The run of the rows, told the loops before them and from which sides two rows are worked in turns."""
        # An odd number of rows is seen from the other side in each second round.
        rounds = 2 if len(self.courses) % 2 == 1 and sides[0] != sides[1] and times != (1, 0) else 1
        base, rise = loops
        entries = []
        for course in self.courses * rounds:
            entries.append(course.entry((base, rise), self.change * rounds, sides[len(entries) % 2]))
            base = base + course.gain
        many = len(self.courses)
        return Run(entries, times[0] * many, times[1] * many)


class Plan:
    """A piece, made ready for being read at many sizes, with numbers of looks."""

    def __init__(self, piece, looks):
        self.outs = Outs(piece)
        self.flat = piece.way == "flat"
        self.cast = piece.cast
        self.stages = [Stage(part, looks) for part in piece.parts]


def runs_of(plan, rest, period):
    """The runs of a plan at sizes rest + period * k that come out, where no line is 0 or 1 but at all of them.

    The period is a multiple of the measure of the piece; or it is 0, for one size that comes out.
    """
    loops = (plan.cast[0] + plan.cast[1] * rest, plan.cast[1] * period)
    side = 0
    found = []
    for stage in plan.stages:
        times = stage.rounds_at(rest, period)
        if times != (0, 0):
            found.append(stage.run(loops, times, (side, 1 - side) if plan.flat else (0, 0)))
        if plan.flat:
            # With an even period, and so rise, the rows are an even number for all k, or an odd one.
            side = (side + times[0] * len(stage.courses)) % 2
        loops = stage.loops_behind(loops, times)
    return found
