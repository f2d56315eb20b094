"""Charts with signs: looks written as lines with a sign for each cell, and read again."""

from allstitches.errors import BadWord
from allstitches.faults import BadChart, BadText
from allstitches.kinds import is_cell, is_word, makes, takes
from allstitches.reading import is_left_out

# The sign of each kind, for cells with the first yarn.
SIGNS = {
    "k": ".", "p": "-", "ktbl": "&", "ptbl": "?", "sl": "v", "slf": "w", "yo": "o", "co": "^", "bo": "_", "kfb": "Y",
    "pfb": "X", "m1l": "L", "m1r": "R", "m1lp": "l", "m1rp": "r", "k2tog": "/", "ssk": "\\", "p2tog": "Z", "ssp": "S",
    "cdd": "A", "cddp": "V", "c2f": "f", "c2b": "b", "c2fw": "F", "c2bw": "B", "c4f": "(", "c4b": ")", "c4fw": "[",
    "c4bw": "]",
}
FIRST_YARN = "a"
EDGE = "|"
REMARK = "#"


class Legend:
    """More signs, each for a cell, beside those that each kind has."""

    def __init__(self, told):
        check_legend(told)
        self._cells = {sign: (kind, FIRST_YARN) for kind, sign in SIGNS.items()}
        self._signs = {(kind, FIRST_YARN): sign for kind, sign in SIGNS.items()}
        for sign, cell in told.items():
            self._cells[sign] = cell
            self._signs[cell] = sign

    def sign_of(self, cell):
        """The sign that is written for a cell, None if it has none."""
        return self._signs.get(cell, None)

    def cell_of(self, sign):
        """The cell that has a sign, None if there is none."""
        return self._cells.get(sign, None)


def write_chart(looks, legend):
    """The text of a list of looks, the last one in the first line, each from the left to the right."""
    lines = []
    for look in looks:
        if not is_word(look):
            raise BadWord("no word")
        signs = [legend.sign_of(cell) for cell in look[::-1]]
        if None in signs:
            raise BadChart("a cell has no sign")
        lines.append(EDGE + "".join(signs) + EDGE + "\n")
    return "".join(lines[::-1])


def read_chart(text, legend):
    """The list of the looks that a text tells."""
    if not isinstance(text, str):
        raise BadText(0, 0)
    found = []
    for place, line in enumerate(text.split("\n")):
        if not is_left_out(line):
            found.append(look_in(line, place + 1, legend))
    return found[::-1]


def counts_fit(looks):
    """The number of the first row whose look does not take as many loops as the one below makes, None if all do."""
    for place in range(1, len(looks)):
        if takes(looks[place]) != makes(looks[place - 1]):
            return place
    return None


def check_legend(told):
    """Raises BadChart, if a thing is no dict from signs that are free to different cells."""
    if not isinstance(told, dict):
        raise BadChart("no dict")
    for sign, cell in told.items():
        if not is_free_sign(sign) or not is_cell(cell):
            raise BadChart("not a sign that is free, and a cell")
    if len({told[sign] for sign in told}) != len(told):
        raise BadChart("two signs for one cell")


def is_free_sign(thing):
    """Whether a thing is a sign that a legend may have."""
    if not isinstance(thing, str) or len(thing) != 1 or not "!" <= thing <= "~":
        return False
    return thing not in (EDGE, REMARK) and thing not in list(SIGNS.values())


def look_in(line, number, legend):
    """The look that a line with a number tells."""
    at = len(line) - len(line.lstrip(" "))
    if line[at] != EDGE:
        raise BadText(number, at + 1)
    cells = []
    at = at + 1
    while at < len(line) and line[at] != EDGE:
        cell = legend.cell_of(line[at])
        if cell is None:
            raise BadText(number, at + 1)
        cells.append(cell)
        at = at + 1
    rest = line[at + 1:].lstrip(" ")
    if at == len(line) or rest:
        raise BadText(number, len(line) - len(rest) + 1)
    return tuple(cells[::-1])
