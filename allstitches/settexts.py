"""Sets of sizes as texts."""

from math import lcm

from allstitches.errors import BadSizes
from allstitches.sizes import MOST_PERIOD, sizes_of
from allstitches.words import words_of_text

MOST_NUMBER = 999


def write_sizes(sizes):
    """The text of a set of sizes."""
    firsts = [sizes.start + rest for rest in sizes.later]
    numbers = list(sizes.early) + firsts + ([sizes.period] if firsts else [])
    if max(numbers, default=0) > MOST_NUMBER:
        raise BadSizes(f"a number would be above {MOST_NUMBER}")
    told = [str(size) for size in sizes.early] + [f"{first} + {sizes.period} n" for first in firsts]
    return ", ".join(told) if told else "none"


def read_sizes(text):
    """The set of sizes that a text tells."""
    items = set_items_from(words_of_text(text))
    period = 1
    for _, step in items:
        period = lcm(period, max(1, step))
    if period > MOST_PERIOD:
        raise BadSizes(f"the common period {period} is above {MOST_PERIOD}")
    start = max([first + 1 for first, _ in items], default=0)
    end = start + period
    flags = [False] * end
    for first, step in sorted(set(items)):
        flags[first] = True
        if step > 0:
            for size in range(first, end, step):
                flags[size] = True
    return sizes_of(flags, start)


def set_items_from(words):
    """The list of the pairs of a first size and a step, 0 for that size alone, that all words tell."""
    if words.skips("none"):
        words.finish()
        return []
    items = [set_item_from(words)]
    while words.skips(","):
        items.append(set_item_from(words))
    words.finish()
    return items


def set_item_from(words):
    """The pair of a first size and a step that the next words tell."""
    first = words.take_number(0)
    if not words.skips("+"):
        return (first, 0)
    step = words.take_number(1)
    words.expect("n")
    return (first, step)
