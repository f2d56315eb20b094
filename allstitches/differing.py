"""The fewest changes that lead from one piece to another."""


class Changes:
    """Steps of least cost from one piece to another, and for each pair of positions the least cost."""

    def __init__(self, steps, bounds):
        self.steps = list(steps)
        self.bounds = {pair: bounds[pair] for pair in bounds}

    def shows(self, one, other):
        """Whether it is so for two pieces."""
        cost = cost_of_steps(one, other, self.steps)
        if cost is None or not are_bounds(one, other, self.bounds):
            return False
        return self.bounds[(len(one.parts), len(other.parts))] == cost


def fewest_changes(one, other):
    """The Changes from one piece to another."""
    bounds = least_bounds(one, other)
    pair = (len(one.parts), len(other.parts))
    steps = []
    while pair != (0, 0):
        best = [step for step, bound in reached(one, other, bounds, pair) if bound == bounds[pair]]
        step = best[0]
        steps.append(step)
        pair = pair_before(step, pair)
    return Changes(steps[::-1], bounds)


def distance(one, other):
    """The least cost of the steps from one piece to another, and of way and cast."""
    return least_bounds(one, other)[(len(one.parts), len(other.parts))]


def least_bounds(one, other):
    """A dict from all pairs of positions to the least costs of steps that lead there, and of way and cast."""
    bounds = {(0, 0): heads_cost(one, other)}
    for pair in pairs_between(one, other)[1:]:
        bounds[pair] = min([bound for _, bound in reached(one, other, bounds, pair)])
    return bounds


def are_bounds(one, other, bounds):
    """Whether a dict has a number for each pair of positions, and none that is above what the others allow."""
    pairs = pairs_between(one, other)
    if len(bounds) != len(pairs) or not all([pair in bounds for pair in pairs]):
        return False
    if bounds[(0, 0)] > heads_cost(one, other):
        return False
    return all([bounds[pair] <= bound for pair in pairs for _, bound in reached(one, other, bounds, pair)])


def pairs_between(one, other):
    """The ascending list of all pairs of how many parts of two pieces are done."""
    return [(i, j) for i in range(len(one.parts) + 1) for j in range(len(other.parts) + 1)]


def heads_cost(one, other):
    """What way and cast cost."""
    return (1 if one.way != other.way else 0) + (1 if one.cast != other.cast else 0)


def steps_to(one, other, pair):
    """The list of the steps that lead to a pair, each with its cost."""
    i, j = pair
    found = []
    if i > 0 and j > 0:
        here, there = one.parts[i - 1], other.parts[j - 1]
        if here == there:
            found.append((("keep", i - 1, j - 1), 0))
        elif are_alterable(here, there):
            found.append((("alter", i - 1, j - 1), 1))
    if i > 0:
        found.append((("take", i - 1), 1))
    if j > 0:
        found.append((("put", j - 1), 1))
    return found


def are_alterable(here, there):
    """Whether two parts are both rows, or both blocks with the same rows."""
    return here[0] == there[0] and (here[0] == "row" or here[2] == there[2])


def pair_before(step, pair):
    """The pair from which a step leads to a pair."""
    return (pair[0] if step[0] == "put" else pair[0] - 1, pair[1] if step[0] == "take" else pair[1] - 1)


def pair_behind(step, pair):
    """The pair to which a step leads from a pair."""
    return (pair[0] if step[0] == "put" else pair[0] + 1, pair[1] if step[0] == "take" else pair[1] + 1)


def reached(one, other, bounds, pair):
    """The list of the steps that lead to a pair, each with the bound of where it begins and its cost together."""
    return [(step, bounds[pair_before(step, pair)] + cost) for step, cost in steps_to(one, other, pair)]


def cost_of_steps(one, other, steps):
    """The cost of steps from the first pair to the last one, and of way and cast; None, if they are no such steps."""
    total = heads_cost(one, other)
    pair = (0, 0)
    for step in steps:
        pair = pair_behind(step, pair)
        if pair[0] > len(one.parts) or pair[1] > len(other.parts):
            return None
        costs = [cost for told, cost in steps_to(one, other, pair) if told == step]
        if not costs:
            return None
        total = total + costs[0]
    return total if pair == (len(one.parts), len(other.parts)) else None
