"""Pins of a text: whether they touch each piece, and pins from pins."""

from touchpin.pieces import stands_at, starts
from touchpin.whole import is_whole


def is_pins(text, thing):
    """Whether anything is a rising tuple of places of the text."""
    if not isinstance(thing, tuple):
        return False
    before = -1
    for place in thing:
        if not is_whole(place) or not before < place < len(text):
            return False
        before = place
    return True


def hold(text, pins):
    """Whether the pins touch each piece of the text."""
    return first_missed(text, pins) is None


def first_missed(text, pins):
    """The least of the shortest pieces that the pins miss, or None."""
    free = free_signs(text, pins)
    # A piece longer than every free row of signs has a pin at each of its standings.
    for length in range(1, max(free, default=0) + 1):
        missed = first_missed_of(text, free, length)
        if missed is not None:
            return missed
    return None


def free_signs(text, pins):
    """For each place, how many signs from it on come ahead of the next pin."""
    free = [0] * len(text)
    pinned = {place: True for place in pins}
    many = 0
    for place in reversed(range(len(text))):
        many = 0 if place in pinned else many + 1
        free[place] = many
    return free


def first_missed_of(text, free, length):
    """The least piece of one length that no pin touches, or None."""
    places = starts(text, length)
    touched = {text[place:place + length]: True for place in places if free[place] < length}
    untouched = [text[place:place + length] for place in places if free[place] >= length]
    return min([piece for piece in untouched if piece not in touched], default=None)


def first_touched(text, pins, piece):
    """The least place at which the piece stands with a pin at one of its signs there, or None."""
    free = free_signs(text, pins)
    for place in stands_at(text, piece):
        if free[place] < len(piece):
            return place
    return None


def joined(text, pins, other, other_pins):
    """The pins of both texts put together: those of each, and the border's where there is one."""
    places = list(pins)
    last = len(text) - 1
    # What reaches over the border is touched by the last place of the first text.
    if text and other and last not in pins:
        places.append(last)
    return tuple(places + [len(text) + place for place in other_pins])


def turned_about(text, pins):
    """The pins as they lie in the text read from its end."""
    return tuple([len(text) - 1 - place for place in reversed(pins)])
