"""Forms of copies: texts told by signs and by copies from elsewhere in the same text."""

from touchpin.errors import GoesRound
from touchpin.pieces import MOST_SIGNS, is_one_letter
from touchpin.whole import is_whole


def is_copies(thing):
    """Whether anything is a form of copies, one that goes round, too."""
    if not isinstance(thing, tuple) or not all([is_part(part) for part in thing]):
        return False
    # Each part has a sign or more, so that more than 300 parts have too many signs.
    signs = sum([length_of(part) for part in thing])
    return signs <= MOST_SIGNS and all([reach_of(part) <= signs for part in thing])


def is_part(thing):
    """Whether anything is a sign or a copy, wherever the copy reaches to."""
    return isinstance(thing, tuple) and (is_sign(thing) or is_copy(thing))


def is_sign(part):
    """Whether a tuple is a sign part."""
    return len(part) == 2 and part[0] == "sign" and is_one_letter(part[1])


def is_copy(part):
    """Whether a tuple is a copy part, wherever it reaches to."""
    if len(part) != 3 or part[0] != "copy":
        return False
    return is_whole(part[1]) and is_whole(part[2]) and part[1] >= 0 and part[2] >= 1


def length_of(part):
    """How many signs a part has."""
    return 1 if part[0] == "sign" else part[2]


def reach_of(part):
    """How many signs there must be in all for what a part copies."""
    return 0 if part[0] == "sign" else part[1] + part[2]


def text_of(form):
    """The text of a form; refused where a place goes round."""
    origins = origins_of(form)
    for place in range(len(origins)):
        settle(origins, place)
    return "".join(origins)


def settle(origins, place):
    """Put its letter at a place and at each one on the way to it; refused where the place goes round."""
    way = []
    at = place
    while not isinstance(origins[at], str):
        # Who has been at as many places as there are comes to one of them again.
        if len(way) == len(origins):
            raise GoesRound(place)
        way.append(at)
        at = origins[at]
    for each in way:
        origins[each] = origins[at]


def followed(form, place):
    """How many copies are followed from a place to a sign, or None where it goes round."""
    origins = origins_of(form)
    many = 0
    while not isinstance(origins[place], str):
        # Who has followed as many copies as there are places has been at one of them twice.
        if many == len(origins):
            return None
        place = origins[place]
        many += 1
    return many


def origins_of(form):
    """For each place its letter, or the place that it is copied from."""
    origins = []
    for part in form:
        if part[0] == "sign":
            origins.append(part[1])
        else:
            origins.extend(list(range(part[1], part[1] + part[2])))
    return origins


def pins_of(form):
    """The last places of the parts; refused where a place goes round."""
    # The text itself is not needed, but it is refused just where the pins are.
    text_of(form)
    return last_places(form)


def last_places(form):
    """The last places of the parts, wherever these are copied from."""
    places = []
    signs = 0
    for part in form:
        signs += length_of(part)
        places.append(signs - 1)
    return tuple(places)


def cut(text):
    """The text cut from its beginning into parts, each as long as it can be copied from an earlier place."""
    parts = []
    start = 0
    while start < len(text):
        part = part_from(text, start)
        parts.append(part)
        start += length_of(part)
    return tuple(parts)


def part_from(text, start):
    """The longest copy from an earlier place, the least such one, or the sign at the start."""
    origin, many = None, 0
    while start + many < len(text):
        # What ends ahead of start + many and is one sign longer than many begins ahead of the start.
        found = text.find(text[start:start + many + 1], 0, start + many)
        if found < 0:
            break
        origin, many = found, many + 1
    if origin is None:
        return "sign", text[start]
    return "copy", origin, many
