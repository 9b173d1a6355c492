"""Whole numbers."""


def is_whole(thing):
    """Whether anything is a whole number; Python's truths are ints, too, but no whole numbers."""
    return isinstance(thing, int) and not isinstance(thing, bool)
