"""Cheapest writings of words, with evidence that none is cheaper."""

from allstitches.errors import BadWord
from allstitches.kinds import is_word
from allstitches.stretching import price_of_repeat, repeated_lengths, stretch_costs
from allstitches.writing import cells_text, times_text

MOST_CELLS = 60


class Cheapest:
    """A writing of least cost, and a table of numbers that no writing of a stretch of its word is cheaper than."""

    def __init__(self, writing, table):
        self.writing = writing
        self.table = {pair: table[pair] for pair in table}

    def shows(self, word):
        """Whether the writing tells a word, and the table shows that no writing of it is cheaper."""
        check_word(word)
        if not is_writing(self.writing) or length_of(self.writing) != len(word) or spelled(self.writing) != word:
            return False
        if not bounds_stretches(self.table, word):
            return False
        return self.table.get((0, len(word)), 0) == cost(self.writing)


def cheapest(word):
    """The Cheapest of a word."""
    check_word(word)
    table = stretch_costs(word, len(word))
    return Cheapest(writing_of(word, table, 0, len(word)), table)


def cost(writing):
    """What a writing costs."""
    costs = [cost_of_repeat(item) if is_repeat(item) else 1 for item in writing]
    return sum(costs)


def spelled(writing):
    """The word that a writing tells."""
    word = ()
    for item in writing:
        word = word + (spelled(item[2]) * item[1] if is_repeat(item) else (item,))
    return word


def writing_text(writing):
    """The text of a writing."""
    told = []
    cells = []
    for item in writing:
        if is_repeat(item):
            told.extend([cells_text(cells), repeat_text(item)])
            cells = []
        else:
            cells.append(item)
    told.append(cells_text(cells))
    return ", ".join([text for text in told if text])


def check_word(word):
    """Raises BadWord, if a thing is no word, or too long a one."""
    if not is_word(word) or len(word) > MOST_CELLS:
        raise BadWord(f"not a word of at most {MOST_CELLS} cells")


def is_repeat(item):
    """Whether an item of a writing is a repeat."""
    return item[0] == "times"


def is_single(writing):
    """Whether a writing is a single cell."""
    return len(writing) == 1 and not is_repeat(writing[0])


def cost_of_repeat(item):
    """What a repeat costs."""
    return cost(item[2]) + (1 if is_single(item[2]) else 2)


def repeat_text(item):
    """The text of a repeat."""
    text = writing_text(item[2])
    return times_text(item[1], text) if is_single(item[2]) else f"{item[1]} ({text})"


def is_writing(items):
    """Whether all repeats in items come twice at least, and are not empty."""
    return all([item[1] > 1 and len(item[2]) > 0 and is_writing(item[2]) for item in items if is_repeat(item)])


def length_of(writing):
    """The number of cells of the word that a writing tells."""
    return sum([item[1] * length_of(item[2]) if is_repeat(item) else 1 for item in writing])


def writing_of(word, table, low, high):
    """A writing of least cost of a stretch of a word, told the least costs of all stretches."""
    items = []
    while low < high:
        # The longest first item: two equal cells side by side become a repeat, which costs as much.
        cuts = [cut for cut in range(low + 1, high + 1) if begins_with(word, table, low, cut, high)]
        items.append(item_of(word, table, low, cuts[-1]))
        low = cuts[-1]
    return tuple(items)


def begins_with(word, table, low, cut, high):
    """Whether a writing of least cost of the stretch from low to high begins with an item for that from low to cut."""
    rest = table[(cut, high)] if cut < high else 0
    if cut == low + 1:
        return 1 + rest == table[(low, high)]
    return length_in_repeat(word, table, low, cut) is not None and table[(low, cut)] + rest == table[(low, high)]


def length_in_repeat(word, table, low, high):
    """The length of the word in a repeat that costs what a stretch does, None if there is no such repeat."""
    for length in repeated_lengths(word[low:high]):
        if table[(low, low + length)] + price_of_repeat(length) == table[(low, high)]:
            return length
    return None


def item_of(word, table, low, high):
    """An item for a stretch, a cell or a repeat, with the cost of the stretch."""
    if high == low + 1:
        return word[low]
    length = length_in_repeat(word, table, low, high)
    return ("times", (high - low) // length, writing_of(word, table, low, low + length))


def bounds_stretches(table, word):
    """Whether a table has a number for each stretch of a word, and none that is above what the others allow."""
    pairs = [(low, high) for high in range(len(word) + 1) for low in range(high)]
    if len(table) != len(pairs) or not all([pair in table for pair in pairs]):
        return False
    return all([is_bound(table, word, low, high) for low, high in pairs])


def is_bound(table, word, low, high):
    """Whether the number of a stretch is not above what those of shorter ones allow."""
    number = table[(low, high)]
    if high == low + 1 and number > 1:
        return False
    if not all([number <= table[(low, cut)] + table[(cut, high)] for cut in range(low + 1, high)]):
        return False
    lengths = repeated_lengths(word[low:high])
    return all([number <= table[(low, low + length)] + price_of_repeat(length) for length in lengths])
