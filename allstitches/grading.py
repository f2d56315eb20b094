"""Lines that are least far from measures wanted at some sizes."""

from math import gcd

from allstitches.faults import BadTable
from allstitches.integers import is_size, is_whole
from allstitches.lines import MOST_BASE, MOST_RISE, is_line, line_at

MOST_SIZE = 1000
MOST_ABOVE = 10000


class Grade:
    """A line that is least far from measures, and for each rise two sizes that let no line with it be less far."""

    def __init__(self, line, against):
        self.line = line
        self.against = {rise: against[rise] for rise in against}

    def shows(self, wanted):
        """Whether it is so for what is wanted."""
        check_wanted_measures(wanted)
        if not is_line(self.line) or len(self.against) != len(rises()):
            return False
        far = farthest(self.line, wanted)[0]
        return all([rise in self.against and self.bars(rise, far, wanted) for rise in rises()])

    def bars(self, rise, far, wanted):
        """Whether the sizes told for a rise let no line with it be less far than a distance."""
        sizes = self.against[rise]
        if len(sizes) != 2 or not all([size in wanted for size in sizes]):
            return False
        return not is_less(nearest_line(rise, sizes, wanted)[1], far)


def grade(wanted):
    """The Grade of what is wanted."""
    check_wanted_measures(wanted)
    against = {rise: outer_sizes(rise, wanted) for rise in rises()}
    best = None
    for rise in rises():
        found = nearest_line(rise, against[rise], wanted)
        if best is None or is_less(found[1], best[1]):
            best = found
    return Grade(best[0], against)


def far_by(line, wanted):
    """The pair of how far a line is from what is wanted, in lowest terms, and the least size at which it is so far."""
    check_wanted_measures(wanted)
    return farthest(line, wanted)


def check_wanted_measures(wanted):
    """Raises BadTable, if a thing is no dict, not empty, from sizes to measures."""
    if not isinstance(wanted, dict) or not wanted:
        raise BadTable("not a dict with a size")
    for size, measure in wanted.items():
        if not is_size(size) or size > MOST_SIZE or not is_measure(measure):
            raise BadTable(f"not a size up to {MOST_SIZE} and a measure")


def is_measure(thing):
    """Whether a thing is a pair of integers that tells a measure, above / below."""
    if not isinstance(thing, tuple) or len(thing) != 2 or not is_whole(thing[0]) or not is_whole(thing[1]):
        return False
    return -MOST_ABOVE <= thing[0] <= MOST_ABOVE and 1 <= thing[1] <= MOST_ABOVE


def rises():
    """The list of the rises of all lines."""
    return list(range(-MOST_RISE, MOST_RISE + 1))


def is_less(one, other):
    """Whether a fraction is less than another one, each a pair with what is below positive."""
    return one[0] * other[1] < other[0] * one[1]


def distance_at(line, size, measure):
    """How far a line is from a measure at a size, a fraction in lowest terms."""
    above, below = measure
    gap = abs(line_at(line, size) * below - above)
    shared = gcd(gap, below)
    return (gap // shared, below // shared)


def farthest(line, wanted):
    """What far_by returns, of what surely is wanted."""
    best = None
    for size in sorted(list(wanted)):
        far = distance_at(line, size, wanted[size])
        if best is None or is_less(best[0], far):
            best = (far, size)
    return best


def base_at(rise, size, measure):
    """The fraction that would be the base of the line with a rise through a measure at a size."""
    above, below = measure
    return (above - rise * size * below, below)


def outer_sizes(rise, wanted):
    """The sizes whose measures lie lowest, and highest, as seen along a rise."""
    sizes = sorted(list(wanted))
    low, high = sizes[0], sizes[0]
    for size in sizes:
        base = base_at(rise, size, wanted[size])
        if is_less(base, base_at(rise, low, wanted[low])):
            low = size
        if is_less(base_at(rise, high, wanted[high]), base):
            high = size
    return (low, high)


def nearest_line(rise, sizes, wanted):
    """A line with a rise that is least far from the measures of two sizes alone, and how far it is."""
    one, other = [base_at(rise, size, wanted[size]) for size in sizes]
    middle = (one[0] * other[1] + other[0] * one[1]) // (2 * one[1] * other[1])
    # Farther from the middle between both bases a line only becomes farther.
    bases = [max(-MOST_BASE, min(MOST_BASE, base)) for base in (middle, middle + 1)]
    pair = {size: wanted[size] for size in sizes}
    found = [((base, rise), farthest((base, rise), pair)[0]) for base in bases]
    return found[1] if is_less(found[1][1], found[0][1]) else found[0]
