"""Which values are integers, and which are tuples of a wanted length."""


def is_whole(thing):
    """Return whether thing is an integer: an int that is not a bool."""
    return isinstance(thing, int) and not isinstance(thing, bool)


def is_whole_in(least, most, thing):
    """Return whether thing is an integer from least to most."""
    return is_whole(thing) and least <= thing <= most


def is_tuple_of(least, most, thing):
    """Return whether thing is a tuple of least to most items."""
    return isinstance(thing, tuple) and least <= len(thing) <= most
