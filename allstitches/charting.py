"""Charts: lists of rows, and the cheapest parts that have them one behind the other."""

from allstitches.faults import BadChart
from allstitches.pieces import MOST_ROWS, are_repeatable, is_part, is_row, rows_of
from allstitches.rewriting import row_cost

MOST_CHART = 60
PRICE_OF_ROW = 1
PRICE_OF_BLOCK = 2


class Chart:
    """Parts of least cost for a chart, and for each number of its rows a number that no parts are cheaper than."""

    def __init__(self, parts, bounds):
        self.parts = parts
        self.bounds = list(bounds)

    def shows(self, chart):
        """Whether the parts are for a chart, and the bounds show that none are cheaper."""
        check_chart(chart)
        if rows_in_parts(self.parts) != chart or len(self.bounds) != len(chart) + 1:
            return False
        costs = costs_of_rows(chart)
        total = sum([part_cost(part, costs) for part in self.parts])
        if self.bounds[0] > 0 or self.bounds[-1] != total:
            return False
        for high in range(1, len(chart) + 1):
            parts = parts_ending(chart, high)
            if not all([self.bounds[high] <= self.bounds[low] + part_cost(part, costs) for low, part in parts]):
                return False
        return True


def cheapest_parts(chart):
    """The Chart of a chart."""
    check_chart(chart)
    costs = costs_of_rows(chart)
    bounds = [0]
    told = [()]
    for high in range(1, len(chart) + 1):
        best = None
        for low, part in parts_ending(chart, high):
            bound = bounds[low] + part_cost(part, costs)
            if best is None or bound < best[0]:
                best = (bound, told[low] + (part,))
        bounds.append(best[0])
        told.append(best[1])
    return Chart(told[-1], bounds)


def check_chart(chart):
    """Raises BadChart, if a thing is not a list of rows, or too long a one."""
    if not isinstance(chart, list) or len(chart) > MOST_CHART or not all([is_row(row) for row in chart]):
        raise BadChart(f"not a list of at most {MOST_CHART} rows")


def costs_of_rows(chart):
    """A dict from the rows of a chart to their costs."""
    costs = {}
    for row in chart:
        if row not in costs:
            costs[row] = row_cost(row)
    return costs


def part_cost(part, costs):
    """The cost of a part, told those of its rows."""
    own = PRICE_OF_ROW if part[0] == "row" else PRICE_OF_BLOCK
    return own + sum([costs[row] for row in rows_of(part)])


def rows_in_parts(parts):
    """The list of the rows that parts have one behind the other; None, if one is no part for a chart."""
    rows = []
    for part in parts:
        if not is_part(part) or part[0] == "block" and not is_repeat_line(part[1]):
            return None
        rows.extend(list(rows_of(part) * (part[1][0] if part[0] == "block" else 1)))
    return rows


def is_repeat_line(line):
    """Whether a line is that of a block in a chart: without a rise, and twice at least."""
    return line[1] == 0 and line[0] > 1


def parts_ending(chart, high):
    """The list of the pairs of a number of less rows, and a part that has the rows between this and another number."""
    found = [(high - 1, ("row", chart[high - 1]))]
    for many in range(1, min(MOST_ROWS, high // 2) + 1):
        rows = tuple(chart[high - many:high])
        times = times_at_end(chart[:high], rows)
        if times > 1 and are_repeatable(rows):
            found.extend([(high - many * time, ("block", (time, 0), rows)) for time in range(2, times + 1)])
    return found


def times_at_end(chart, rows):
    """How many times some rows stand at the end of a chart, one behind the other."""
    times = 0
    end = len(chart)
    while end >= len(rows) and tuple(chart[end - len(rows):end]) == rows:
        times = times + 1
        end = end - len(rows)
    return times
