"""Texts and their pieces: which there are, and where they stand."""

MOST_SIGNS = 300


def is_letter(sign):
    """Whether one sign is a small letter."""
    return "a" <= sign <= "z"


def is_one_letter(thing):
    """Whether anything is a text of one small letter."""
    return isinstance(thing, str) and len(thing) == 1 and is_letter(thing)


def all_letters(signs):
    """Whether all signs, however many, are small letters."""
    return all([is_letter(sign) for sign in signs])


def is_text(thing):
    """Whether anything is a text of none to 300 small letters."""
    return isinstance(thing, str) and len(thing) <= MOST_SIGNS and all_letters(thing)


def stands_at(text, piece):
    """The places at which the piece stands, rising."""
    places = starts(text, len(piece))
    return [place for place in places if text.startswith(piece, place)]


def pieces_of(text, length):
    """The unlike pieces of a length, sorted."""
    return sorted({text[place:place + length] for place in starts(text, length)})


def counts(text):
    """How many unlike pieces there are of each length from 1 on."""
    return [len(pieces_of(text, length)) for length in range(1, len(text) + 1)]


def starts(text, length):
    """The places at which a piece of this length may begin."""
    # A piece has one sign or more, so that shorter ones begin nowhere.
    if length < 1:
        return []
    return list(range(len(text) - length + 1))
