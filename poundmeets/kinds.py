"""The kinds of things that are handed in, as every module tells them apart."""


def is_whole(thing):
    """Tell whether thing is a whole number: an int that is no truth."""
    return isinstance(thing, int) and not isinstance(thing, bool)


def is_between(thing, least, greatest):
    """Tell whether thing is a whole number from least to greatest."""
    return is_whole(thing) and least <= thing <= greatest


def has_parts(thing, many):
    """Tell whether thing is a tuple of so many parts."""
    return isinstance(thing, tuple) and len(thing) == many
