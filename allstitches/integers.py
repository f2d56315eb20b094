"""What counts as an integer and as a size."""


def is_whole(thing):
    """Whether a thing is an integer; True and False are none."""
    return isinstance(thing, int) and not isinstance(thing, bool)


def is_size(thing):
    """Whether a thing is a size: an integer from 0 on."""
    return is_whole(thing) and thing >= 0
