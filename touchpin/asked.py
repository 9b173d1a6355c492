"""Pieces asked for: where one stands over a pin, and which piece of another text stands nowhere."""

from touchpin.copies import text_of
from touchpin.pieces import pieces_of
from touchpin.pins import first_touched


def seek(form, pins, piece):
    """The least place at which the piece stands in the form's text over one of the pins, or None."""
    return first_touched(text_of(form), pins, piece)


def first_strange(text, other):
    """The least of the shortest pieces of the other text that stand nowhere in the text, or None."""
    for length in range(1, len(other) + 1):
        # The pieces of a length are sorted, so that the first strange one is the least.
        for piece in pieces_of(other, length):
            if piece not in text:
                return piece
    return None
