"""Pieces, rows, words and lines written as texts."""

from allstitches.errors import BadLine, BadRow, BadWord
from allstitches.kinds import is_word
from allstitches.lines import is_line
from allstitches.pieces import is_row


def write_piece(piece):
    """The text of a piece, of lines that are each ended by a line feed."""
    lines = [f"{piece.way} on {write_line(piece.cast)}"]
    for part in piece.parts:
        if part[0] == "row":
            lines.append(f"row {write_row(part[1])}")
        else:
            lines.append(f"block {write_line(part[1])}")
            lines.extend([f"  {write_row(row)}" for row in part[2]])
    return "".join([f"{line}\n" for line in lines])


def write_row(row):
    """The text of a row."""
    if not is_row(row):
        raise BadRow("no row")
    before, group, after = [cells_text(word) for word in row]
    told = [text for text in (before, f"*{group}*" if group else "", after) if text]
    return ", ".join(told) if told else "nothing"


def write_word(word):
    """The text of a word."""
    if not is_word(word):
        raise BadWord("no word")
    return cells_text(word)


def write_line(line):
    """The text of a line."""
    if not is_line(line):
        raise BadLine("no line")
    base, rise = line
    if rise == 0:
        return str(base)
    step = "s" if abs(rise) == 1 else f"{abs(rise)} s"
    if base == 0:
        return step if rise > 0 else f"-{step}"
    sign = "+" if rise > 0 else "-"
    return f"{base} {sign} {step}"


def cells_text(cells):
    """The text of cells that stand side by side."""
    return ", ".join([times_text(many, cell_text(cell)) for cell, many in stretches(cells)])


def cell_text(cell):
    """The text of a cell."""
    kind, yarn = cell
    return kind if yarn == "a" else f"{kind}/{yarn}"


def times_text(many, text):
    """The text of what comes so many times."""
    return text if many == 1 else f"{many} {text}"


def stretches(cells):
    """The list of the pairs of a cell and how many of it stand side by side."""
    found = []
    for cell in cells:
        if found and found[-1][0] == cell:
            found[-1] = (cell, found[-1][1] + 1)
        else:
            found.append((cell, 1))
    return found
