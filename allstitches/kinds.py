"""The kinds of stitches, cells and words."""

# What each kind takes and makes, its back and its mirror.
KINDS = {
    "k": (1, 1, "p", "k"),
    "p": (1, 1, "k", "p"),
    "ktbl": (1, 1, "ptbl", "ktbl"),
    "ptbl": (1, 1, "ktbl", "ptbl"),
    "sl": (1, 1, "slf", "sl"),
    "slf": (1, 1, "sl", "slf"),
    "yo": (0, 1, "yo", "yo"),
    "co": (0, 1, "co", "co"),
    "bo": (1, 0, "bo", "bo"),
    "kfb": (1, 2, "pfb", "kfb"),
    "pfb": (1, 2, "kfb", "pfb"),
    "m1l": (0, 1, "m1lp", "m1r"),
    "m1r": (0, 1, "m1rp", "m1l"),
    "m1lp": (0, 1, "m1l", "m1rp"),
    "m1rp": (0, 1, "m1r", "m1lp"),
    "k2tog": (2, 1, "p2tog", "ssk"),
    "ssk": (2, 1, "ssp", "k2tog"),
    "p2tog": (2, 1, "k2tog", "ssp"),
    "ssp": (2, 1, "ssk", "p2tog"),
    "cdd": (3, 1, "cddp", "cdd"),
    "cddp": (3, 1, "cdd", "cddp"),
    "c2f": (2, 2, "c2fw", "c2b"),
    "c2b": (2, 2, "c2bw", "c2f"),
    "c2fw": (2, 2, "c2f", "c2bw"),
    "c2bw": (2, 2, "c2b", "c2fw"),
    "c4f": (4, 4, "c4fw", "c4b"),
    "c4b": (4, 4, "c4bw", "c4f"),
    "c4fw": (4, 4, "c4f", "c4bw"),
    "c4bw": (4, 4, "c4b", "c4fw"),
}


def is_kind(thing):
    """Whether a thing is one of the kinds."""
    return isinstance(thing, str) and thing in KINDS


def is_yarn(thing):
    """Whether a thing is a letter from a to z."""
    return isinstance(thing, str) and len(thing) == 1 and "a" <= thing <= "z"


def is_cell(thing):
    """Whether a thing is a pair of a kind and a yarn."""
    return isinstance(thing, tuple) and len(thing) == 2 and is_kind(thing[0]) and is_yarn(thing[1])


def is_word(thing):
    """Whether a thing is a tuple of cells."""
    return isinstance(thing, tuple) and all([is_cell(cell) for cell in thing])


def takes(word):
    """How many loops the cells of a word take together."""
    return sum([KINDS[kind][0] for kind, _ in word])


def makes(word):
    """How many loops the cells of a word make together."""
    return sum([KINDS[kind][1] for kind, _ in word])


def behind(word):
    """The back of a word."""
    return tuple([(KINDS[kind][2], yarn) for kind, yarn in word[::-1]])


def mirrored_word(word):
    """The mirror image of a word."""
    return tuple([(KINDS[kind][3], yarn) for kind, yarn in word[::-1]])
