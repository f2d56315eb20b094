"""Rows that work alike, and what the cheapest writings of their words cost."""

from allstitches.errors import BadRow
from allstitches.families import family_of, same_family
from allstitches.pieces import MOST_AFTER, MOST_BEFORE, is_row
from allstitches.stretching import stretch_costs

# What a group costs beside its word.
PRICE_OF_GROUP = 2


class Thrift:
    """A row of least cost of those that work alike, and the costs of all of these."""

    def __init__(self, row, costs):
        self.row = row
        self.costs = list(costs)

    def shows(self, row):
        """Whether it is so for a row."""
        check_row(row)
        rows = alike_rows(row)
        if self.costs != costs_of_alike(rows) or self.row not in rows:
            return False
        return self.costs[rows.index(self.row)] == min(self.costs)


def alike_rows(row):
    """The list of all rows that work like a row, by ascending lengths of before."""
    check_row(row)
    before, group, after = row
    if not group:
        return [row]
    word = before + group + after
    wide = len(group)
    first = first_cut(before, group)
    last = last_cut(before, group, after)
    cuts = range(max(first, len(before) + len(after) - MOST_AFTER), min(last, MOST_BEFORE) + 1)
    return [(word[:cut], word[cut:cut + wide], word[cut + wide:]) for cut in cuts]


def thrift(row):
    """The Thrift of a row."""
    rows = alike_rows(row)
    costs = costs_of_alike(rows)
    return Thrift(rows[costs.index(min(costs))], costs)


def are_alike(row, other):
    """Whether two rows work alike."""
    check_row(row)
    check_row(other)
    if not row[1] or not other[1]:
        return row == other
    return same_family(family_of(row), family_of(other))


def check_row(row):
    """Raises BadRow, if a thing is no row."""
    if not is_row(row):
        raise BadRow("no row")


def first_cut(before, group):
    """The least length of before in a row that works like one with these words."""
    cut = len(before)
    while cut > 0 and before[cut - 1] == group[(cut - 1 - len(before)) % len(group)]:
        cut = cut - 1
    return cut


def last_cut(before, group, after):
    """The greatest length of before in a row that works like one with these words."""
    moved = 0
    while moved < len(after) and after[moved] == group[moved % len(group)]:
        moved = moved + 1
    return len(before) + moved


def costs_of_alike(rows):
    """The list of the costs of all rows that work alike."""
    if not rows[0][1]:
        return [row_cost(row) for row in rows]
    # All of them are the same word with one turn: what its stretches cost is worked out once.
    table = stretch_costs(rows[0][0] + rows[0][1] + rows[0][2], max([len(word) for row in rows for word in row]))
    return [cut_cost(table, row) for row in rows]


def cut_cost(table, row):
    """The cost of a row with a group, told those of the stretches of its word with one turn."""
    total = PRICE_OF_GROUP
    low = 0
    for word in row:
        total = total + table.get((low, low + len(word)), 0)
        low = low + len(word)
    return total


def row_cost(row):
    """The cost of a row."""
    costs = [stretch_costs(word, len(word)).get((0, len(word)), 0) for word in row]
    return sum(costs) + (PRICE_OF_GROUP if row[1] else 0)
