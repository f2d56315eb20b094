"""Families of words: words left and right, and between them a group any number of times."""


class Family:
    """A family in its least form: its word of n turns is left, rate * n + more times core, right."""

    def __init__(self, left, group, right):
        root = root_of(group)
        moved = overlap_of(left, root)
        shift = len(root) - moved % len(root)
        core = root[shift:] + root[:shift]
        rest = left[len(left) - moved:] + right
        more = times_ahead(rest, core)
        self.left = left[:len(left) - moved]
        self.core = core
        self.right = rest[more * len(core):]
        self.rate = len(group) // len(core)
        self.more = more

    def word(self, turns):
        """The word of so many turns."""
        return self.left + self.core * (self.rate * turns + self.more) + self.right

    def length(self, turns):
        """The number of cells of the word of so many turns."""
        return len(self.left) + len(self.core) * (self.rate * turns + self.more) + len(self.right)

    def of_length(self, many):
        """The word left, core any number of times, right, with so many cells; None if there is none."""
        return word_of_length(self.left, self.core, self.right, many)


def root_of(group):
    """The shortest word that a word is one or more times."""
    many = len(group)
    lengths = [length for length in range(1, many + 1) if many % length == 0]
    return group[:min([length for length in lengths if group[:length] * (many // length) == group])]


def overlap_of(left, core):
    """How many of the last cells of left stand there as if core came before itself, again and again."""
    many = 0
    while many < len(left) and left[-1 - many] == core[-1 - many % len(core)]:
        many = many + 1
    return many


def times_ahead(word, core):
    """How many times core stands at the beginning of a word."""
    many = 0
    while word[many * len(core):(many + 1) * len(core)] == core:
        many = many + 1
    return many


def word_of_length(left, core, right, many):
    """The word left, core any number of times, right, with so many cells; None if there is none."""
    missing = many - len(left) - len(right)
    times = missing // max(1, len(core))
    if missing < 0 or times * len(core) != missing:
        return None
    return left + core * times + right


def family_of(row):
    """The family of a row with a group."""
    before, group, after = row
    return Family(before, group, after)


def same_family(one, two):
    """Whether two families have the same word for each number of turns."""
    return (one.left == two.left and one.core == two.core and one.right == two.right
            and one.rate == two.rate and one.more == two.more)


def first_unlike(one, two):
    """The least number of turns for which two families have not the same word, None if there is none."""
    if same_family(one, two):
        return None
    # Families that are not the same have some unlike words, as each has one least form only.
    turns = 0
    while one.word(turns) == two.word(turns):
        turns = turns + 1
    return turns
