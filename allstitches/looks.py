"""Looks of rows whose numbers of cells are left open, and the lengths at which two of them are the same word."""

from allstitches.families import family_of, word_of_length


def look_of(row):
    """The look of a row that is worked from the right side: a word, or a family without its numbers of turns."""
    if not row[1]:
        return ("word", row[0])
    family = family_of(row)
    return ("family", family.left, family.core, family.right)


def word_of(look, many):
    """The word of a look with so many cells, None if there is none."""
    if look[0] == "word":
        return look[1] if len(look[1]) == many else None
    return word_of_length(look[1], look[2], look[3], many)


def lengths_of(look, end):
    """The ascending list of the lengths below an end that words of a look have."""
    if look[0] == "word":
        return [len(look[1])]
    return list(range(len(look[1]) + len(look[3]), end, max(1, len(look[2]))))


def end_of_likeness(one, other):
    """A length from which on two families that are told by other words have no word in common.

    A longer word would have a stretch between both lefts and both rights in which both cores repeat, at least as long
    as both together: then they are as long as each other, and both least forms are one.
    """
    left = max(len(one[1]), len(other[1]))
    right = max(len(one[3]), len(other[3]))
    return left + right + len(one[2]) + len(other[2])


def shared_lengths(one, other):
    """The list of the lengths at which two looks are the same word; None, if they are wherever both have one."""
    if one == other:
        return None
    if one[0] == "family" and other[0] == "family":
        lengths = lengths_of(one, end_of_likeness(one, other))
    else:
        lengths = lengths_of(one if one[0] == "word" else other, 0)
    return [many for many in lengths if word_of(one, many) == word_of(other, many)]


class Looks:
    """Numbers in the place of looks, so that any two of these are compared once only."""

    def __init__(self):
        self._numbers = {}
        self._looks = []
        self._shared = {}

    def number_of(self, look):
        """The number of a look, a new one if it has none yet."""
        if look not in self._numbers:
            self._numbers[look] = len(self._looks)
            self._looks.append(look)
        return self._numbers[look]

    def look_with(self, number):
        """The look that has a number."""
        return self._looks[number]

    def shared(self, one, other):
        """What shared_lengths tells of the looks with two numbers."""
        pair = (one, other)
        if pair not in self._shared:
            self._shared[pair] = shared_lengths(self._looks[one], self._looks[other])
        return self._shared[pair]
