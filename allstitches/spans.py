"""Sets of sizes as spans: pairs of a first and a last size, None for no last one."""

from allstitches.sizes import Sizes


def first_in(low, rest, period):
    """The least size from low on that has a rest."""
    return low + (rest - low) % period


def last_in(high, rest, period):
    """The greatest number up to high that has a rest."""
    return high - (high - rest) % period


def trimmed(spans, rest, period):
    """The spans without what has another rest, each from one size with the rest to another one, empty ones left out."""
    found = []
    for low, high in spans:
        first = first_in(low, rest, period)
        last = None if high is None else last_in(high, rest, period)
        if last is None or first <= last:
            found.append((first, last))
    return found


def gathered(spans, others):
    """The set of some other sizes, and of those that lie in one of the ascending spans told for their rest."""
    period = len(spans)
    spans = [trimmed(mine, rest, period) for rest, mine in enumerate(spans)]
    ends = [first if last is None else last + 1 for mine in spans for first, last in mine]
    start = max(ends + [size + 1 for size in others], default=0)
    early = list(others)
    later = []
    for rest, mine in enumerate(spans):
        for first, last in mine:
            early.extend(list(range(first, start if last is None else last + 1, period)))
            if last is None:
                later.append((rest - start) % period)
    # The period of what has an end does not matter, and may be too great for a set.
    return Sizes(tuple(sorted(early)), start, period if later else 1, tuple(sorted(later)))


def without(low, high, holes):
    """The ascending list of the spans of the sizes from low to high that lie in none of some spans."""
    found = []
    firsts = sorted([(span[0], place) for place, span in enumerate(holes) if span[1] is None or span[0] <= span[1]])
    for first, place in firsts:
        last = holes[place][1]
        if first > low:
            found.append((low, first - 1))
        if last is None:
            return cut_off(found, high)
        low = max(low, last + 1)
    return cut_off(found + [(low, None)], high)


def finite(sizes):
    """The set of the sizes of an ascending list."""
    return Sizes(tuple(sizes), max(sizes, default=-1) + 1, 1, ())


def clipped(spans, low, high):
    """What lies from a low to a high size in ascending spans, None for no high one."""
    return cut_off([(max(low, first), last) for first, last in spans if last is None or last >= low], high)


def is_in(spans, size):
    """Whether a size lies in one of some spans."""
    return any([first <= size and (last is None or size <= last) for first, last in spans])


def cut_off(spans, high):
    """The spans up to a last size, None for no last one."""
    if high is None:
        return spans
    return [(first, high if last is None else min(last, high)) for first, last in spans if first <= high]
