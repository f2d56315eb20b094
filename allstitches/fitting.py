"""Rows that give words told for some numbers of loops."""

from allstitches.faults import BadTold
from allstitches.integers import is_size
from allstitches.kinds import is_word, takes
from allstitches.pieces import is_row
from allstitches.rewriting import row_cost

MOST_CELLS = 60


def rows_fitting(told):
    """The list with one of each family of rows that work alike and give each of the words on its loops, by cost."""
    check_told(told)
    found = []
    for turns, each in turns_told(told):
        found.extend(rows_of_turns(told, turns, each))
    ordered = sorted([(row_cost(row), row) for row in found])
    return [row for _, row in ordered]


def check_told(told):
    """Raises BadTold, if a thing is no dict of two or more numbers of loops with words that take as many."""
    if not isinstance(told, dict) or len(told) < 2:
        raise BadTold("not a dict of two numbers of loops or more")
    for loops, word in told.items():
        if not is_size(loops) or not is_word(word) or len(word) > MOST_CELLS or takes(word) != loops:
            raise BadTold(f"not a number of loops and a word of at most {MOST_CELLS} cells that takes as many")


def turns_told(told):
    """Pairs of the turns on the least number of loops, and the cells of the group, that the two least ones allow."""
    least, next_one = sorted(list(told))[:2]
    few, many = len(told[least]), len(told[next_one])
    widths = [wide for wide in range(1, many - few + 1) if (many - few) % wide == 0]
    return [(turns, wide) for wide in widths for turns in range(few // wide + 1)]


def rows_of_turns(told, turns, wide):
    """The list of the rows with so many turns on the least number of loops, and so many cells in the group."""
    loops = sorted(list(told))
    few, more = told[loops[0]], told[loops[1]]
    found = []
    for cut in range(len(few) - turns * wide + 1):
        group = more[cut:cut + wide]
        # Each family has just one row whose before can't be shorter: it does not end as the group does.
        if cut == 0 or few[cut - 1] != group[-1]:
            row = (few[:cut], group, few[cut + turns * wide:])
            if is_row(row) and all([gives(row, told[number]) for number in loops]):
                found.append(row)
    return found


def gives(row, word):
    """Whether a word is the one of a row with some number of turns."""
    before, group, after = row
    turns = (len(word) - len(before) - len(after)) // len(group)
    return turns >= 0 and before + group * turns + after == word
