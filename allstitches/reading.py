"""Pieces and rows read from texts."""

from allstitches.errors import BadRow
from allstitches.faults import BadText
from allstitches.kinds import is_kind, is_yarn
from allstitches.pieces import Piece, is_row
from allstitches.words import Words, words_of_text

MOST_DEEP = 10
ROW_INDENT = 2
# So many cells are too many in each place of a row: none are made beyond them.
TOO_MANY = 61


def read_piece(text):
    """The piece that a text tells."""
    lines = lines_of(text)
    if not lines:
        raise BadText(1, 1)
    way, cast = head_from(Words(lines[0][1], lines[0][0]))
    parts = []
    for number, line in lines[1:]:
        add_line(parts, Words(line, number))
    if lacks_rows(parts):
        raise BadText(lines[-1][0] + 1, 1)
    return Piece(way, cast, tuple([finished(part) for part in parts]))


def read_row(text):
    """The row that a text tells."""
    row = row_from(words_of_text(text))
    if not is_row(row):
        raise BadRow("of the form, but no row")
    return row


def lines_of(text):
    """The list of the lines of a text that are not left out, each behind its number."""
    if not isinstance(text, str):
        raise BadText(0, 0)
    return [(place + 1, line) for place, line in enumerate(text.split("\n")) if not is_left_out(line)]


def is_left_out(line):
    """Whether a line has blanks alone, or is a remark."""
    told = line.lstrip(" ")
    return told == "" or told.startswith("#")


def head_from(words):
    """The way and the line that is cast on, from the words of the first line."""
    words.check_indent(0)
    if words.peek() not in ("flat", "round"):
        words.refuse()
    way = words.take()
    words.expect("on")
    return (way, line_from(words))


def add_line(parts, words):
    """Adds what the words of a line tell to parts, whose blocks have a list of rows: a part, or a row of the last."""
    in_block = bool(parts) and parts[-1][0] == "block"
    if in_block and (lacks_rows(parts) or words.indent() == ROW_INDENT):
        words.check_indent(ROW_INDENT)
        parts[-1][2].append(row_from(words))
        return
    words.check_indent(0)
    if words.skips("row"):
        parts.append(("row", row_from(words)))
    else:
        words.expect("block")
        parts.append(("block", line_from(words), []))


def lacks_rows(parts):
    """Whether the last of the parts is a block that has no rows yet."""
    return bool(parts) and parts[-1][0] == "block" and not parts[-1][2]


def finished(part):
    """The part as a piece has it."""
    return ("block", part[1], tuple(part[2])) if part[0] == "block" else part


def line_from(words):
    """The pair of base and rise that all words from here on tell."""
    sign = -1 if words.skips("-") else 1
    if words.skips("s"):
        line = (0, sign)
    else:
        line = line_behind(sign * words.take_number(0), words)
    words.finish()
    return line


def line_behind(number, words):
    """The pair of base and rise, told the number in front."""
    if words.skips("s"):
        return (0, number)
    if words.peek() not in ("+", "-"):
        return (number, 0)
    sign = -1 if words.take() == "-" else 1
    rise = words.take_number(0) if words.has_digits() else 1
    words.expect("s")
    return (number, sign * rise)


def row_from(words):
    """The three words of a row that all words of the text from here on tell."""
    if words.skips("nothing"):
        words.finish()
        return ((), (), ())
    before, group, after = (), (), ()
    if words.peek() != "*":
        before = items_from(words, 0, True)
        if words.peek() == "":
            return (before, (), ())
        words.expect(",")
    words.expect("*")
    group = items_from(words, 0, False)
    words.expect("*")
    if words.skips(","):
        after = items_from(words, 0, False)
    words.finish()
    return (before, group, after)


def items_from(words, deep, may_end):
    """The cells of items with commas between, in so many parentheses; a comma and a * behind them may end them."""
    cells = item_from(words, deep)
    while words.peek() == "," and not (may_end and words.peek(1) == "*"):
        words.expect(",")
        cells = (cells + item_from(words, deep))[:TOO_MANY]
    return cells


def item_from(words, deep):
    """The cells of an item that stands in so many parentheses."""
    if not words.has_digits():
        return (cell_from(words),)
    times = words.take_number(1)
    if words.peek() != "(":
        return (cell_from(words),) * times
    if deep == MOST_DEEP:
        words.refuse()
    words.expect("(")
    cells = items_from(words, deep + 1, False)
    words.expect(")")
    return (cells * min(times, TOO_MANY))[:TOO_MANY]


def cell_from(words):
    """The cell that stands next."""
    if not is_kind(words.peek()):
        words.refuse()
    kind = words.take()
    if not words.skips("/"):
        return (kind, "a")
    if not is_yarn(words.peek()):
        words.refuse()
    return (kind, words.take())
