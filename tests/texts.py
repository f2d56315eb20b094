"""Texts for the tests: rows told at random, and which texts are those of rows, told by a pattern."""

import re

from allstitches.kinds import KINDS

# M is a kind that may be a yarn, too.
CELL = r"[KM]( / [YM])?"
WORDS = {"k": "M", "p": "M", "yo": "K", "c2fw": "K", "2": "N", "3": "N", "12": "N", "0": "Z", "1000": "Z", "04": "Z",
         "b": "Y", "s": "Y", "ab": "X", "purl": "X", "nothing": "E"}


def items_pattern(deep):
    inner = CELL if deep == 0 else rf"(?:{CELL}|N \( {items_pattern(deep - 1)} \))"
    item = rf"(?:N {CELL}|{inner})"
    return rf"{item}(?: , {item})*"


ITEMS = items_pattern(3)
ROW = re.compile(rf"E|{ITEMS}|\* {ITEMS} \*( , {ITEMS})?|{ITEMS} , \* {ITEMS} \*( , {ITEMS})?")
# What may complete the beginning of a text: a cell or a yarn, parentheses that are closed, a group that is closed.
ENDS = [first + closed + last for first in ("", " K", " Y", " K *") for closed in ("", " )", " ) )", " ) ) )")
        for last in ("", " *")]


def is_row_text(words):
    return ROW.fullmatch(" ".join(WORDS.get(word, word) for word in words)) is not None


def begins_a_row(words):
    """Whether words can be completed to the text of a row (with parentheses at most three deep)."""
    text = " ".join(WORDS.get(word, word) for word in words)
    return any(ROW.fullmatch((text + end).strip()) for end in ENDS)


def random_items(dice, deep):
    """A text of items, and its cells."""
    texts, cells = [], ()
    for _ in range(dice.choice([1, 1, 2, 3])):
        if deep > 0 and dice.random() < 0.25:
            text, inner = random_items(dice, deep - 1)
            blank, times = dice.choice(["", " "]), dice.randint(1, 3)
            text, inner = f"{times}{blank}({blank}{text}{blank})", inner * times
        else:
            kind, yarn = dice.choice(list(KINDS)), dice.choice("aaabz")
            slash = dice.choice(["/", " / ", "/ "])
            told = f"{kind}{slash}{yarn}" if yarn != "a" or dice.random() < 0.2 else kind
            times = dice.choice([None, None, 1, 2, 7])
            text = told if times is None else f"{times}{dice.choice(['', ' '])}{told}"
            inner = ((kind, yarn),) * (times or 1)
        texts.append(text)
        cells += inner
    return dice.choice([",", ", ", " , "]).join(texts), cells


def random_row_text(dice):
    """A text of a row, loosely written, and its three words (which may be no row)."""
    texts, words = [], [(), (), ()]
    form = dice.choice(["b", "b*", "*", "*a", "b*a", "b*a"])
    for place, sign in enumerate("b*a"):
        if sign in form:
            text, words[place] = random_items(dice, 2)
            texts.append(f"*{text}*" if sign == "*" else text)
    return dice.choice([",", ", ", "  ,  "]).join(texts) + " " * dice.choice([0, 0, 1, 3]), tuple(words)
