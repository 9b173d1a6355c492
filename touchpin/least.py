"""The least pins that hold a text, and trees that show that fewer miss a piece."""

from touchpin.errors import TooMany
from touchpin.pieces import pieces_of, stands_at
from touchpin.whole import is_whole

MOST_SIGNS_OF_LEAST = 12


def least(text):
    """How few pins hold the text, such pins, and a tree that shows that one fewer miss a piece."""
    if len(text) > MOST_SIGNS_OF_LEAST:
        raise TooMany("the least pins are told of at most 12 signs")
    touching = touching_places(text)
    missed = list(touching)
    number = 0
    pins = some_pins(touching, missed, number)
    while pins is None:
        number += 1
        pins = some_pins(touching, missed, number)
    tree = tree_for(touching, missed, number - 1) if number > 0 else None
    return number, tuple(sorted(pins)), tree


def shows_missing(text, m, thing):
    """Whether anything is a tree that shows that no m pins hold the text."""
    return is_tree(touching_places(text), m, [], thing)


def touching_places(text):
    """For each piece, the shortest ones first, the places at which a pin touches it, rising."""
    lengths = list(range(1, len(text) + 1))
    return {piece: places_under(text, piece) for length in lengths for piece in pieces_of(text, length)}


def places_under(text, piece):
    """The places of all signs of all standings of a piece, rising."""
    return sorted({start + step for start in stands_at(text, piece) for step in range(len(piece))})


def some_pins(touching, missed, many):
    """Places of at most so many pins that touch each of the missed pieces, or None."""
    if not missed:
        return []
    if many == 0:
        return None
    for place in touching[narrowest(touching, missed)]:
        others = some_pins(touching, still_missed(touching, missed, place), many - 1)
        if others is not None:
            return [place] + others
    return None


def tree_for(touching, missed, many):
    """A tree for so many pins more; there are always missed pieces, as so few pins never hold."""
    piece = narrowest(touching, missed)
    if many == 0:
        return piece, []
    places = touching[piece]
    return piece, [(place, tree_for(touching, still_missed(touching, missed, place), many - 1)) for place in places]


def narrowest(touching, missed):
    """The missed piece with the fewest places to touch it, which keeps the branches few."""
    return min(missed, key=lambda piece: len(touching[piece]))


def still_missed(touching, missed, place):
    """The missed pieces that a pin at this place does not touch."""
    return [piece for piece in missed if place not in touching[piece]]


def is_tree(touching, m, pins, thing):
    """Whether anything is a tree for m pins, these pins put so far."""
    if not isinstance(thing, tuple) or len(thing) != 2:
        return False
    piece, branches = thing
    if not isinstance(piece, str) or piece not in touching or not isinstance(branches, list):
        return False
    places = touching[piece]
    if any([pin in places for pin in pins]):
        return False
    if len(pins) == m:
        return not branches
    if len(branches) != len(places):
        return False
    for place, branch in zip(places, branches):
        if not is_branch(touching, m, pins, place, branch):
            return False
    return True


def is_branch(touching, m, pins, place, thing):
    """Whether anything is this place and a tree for m pins, these and the one at the place put so far."""
    if not isinstance(thing, tuple) or len(thing) != 2:
        return False
    told, tree = thing
    return is_whole(told) and told == place and is_tree(touching, m, pins + [place], tree)
