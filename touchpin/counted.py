"""Bounds from below for the number of pins, by counts of unlike pieces."""

from touchpin.pieces import counts, pieces_of


def bound(text):
    """The greatest number of pins that a count shows to be needed, and a length by which it is so."""
    return bound_by(counts(text))


def bound_by(numbers):
    """The bound, and its length, by the numbers of unlike pieces of each length from 1 on."""
    best = (0, None)
    for length, many in enumerate(numbers, start=1):
        number = rounded_up(many, length)
        if number > best[0]:
            best = (number, length)
    return best


def rounded_up(many, length):
    """Many divided by the length, rounded up."""
    return (many + length - 1) // length


def shows_bound(text, number, length):
    """Whether the count of the pieces of a length shows that no fewer than this number of pins hold."""
    if not 1 <= length <= len(text):
        return False
    return len(pieces_of(text, length)) > length * (number - 1)
