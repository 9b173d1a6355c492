"""What the document says, written out word by word and slowly, to compare the program with."""

from itertools import combinations, product


def all_texts(letters, most):
    """Every text of these letters with none to most signs."""
    return ["".join(signs) for many in range(most + 1) for signs in product(letters, repeat=many)]


def all_pins(text):
    """All pins that a text has."""
    places = range(len(text))
    return [pins for many in range(len(text) + 1) for pins in combinations(places, many)]


def standings(text, piece):
    return [i for i in range(len(text)) if text[i:i + len(piece)] == piece]


def pieces(text):
    """Every piece once, the shortest first, those of one length sorted."""
    found = {text[i:j] for i in range(len(text)) for j in range(i + 1, len(text) + 1)}
    return sorted(found, key=lambda piece: (len(piece), piece))


def touches(text, pins, piece):
    return any(i <= pin < i + len(piece) for i in standings(text, piece) for pin in pins)


def first_missed(text, pins):
    for piece in pieces(text):
        if not touches(text, pins, piece):
            return piece
    return None


def nested(kind, core, depth):
    """A thing with tuples or lists around it, depth of them."""
    for _ in range(depth):
        core = kind([core])
    return core


def fibonacci(many):
    """A text of a and b in which no piece stands four times side by side."""
    shorter, longer = "b", "a"
    while len(longer) < many:
        shorter, longer = longer, longer + shorter
    return longer[:many]


def scrambled(letters, many):
    """A text that looks like chance, but is the same each time."""
    state, signs = 7, []
    for _ in range(many):
        state = (state * 1103515245 + 12345) % 2 ** 31
        signs.append(letters[(state >> 16) % len(letters)])
    return "".join(signs)


def touch_places(text, piece):
    """The places at which a pin touches the piece, rising."""
    return [place for place in range(len(text)) if touches(text, (place,), piece)]


def least_number(text):
    """How few pins hold, by all pins gone through, the fewest first."""
    needed = [set(touch_places(text, piece)) for piece in pieces(text)]
    for pins in sorted(all_pins(text), key=len):
        if not any(places.isdisjoint(pins) for places in needed):
            return len(pins)
    raise AssertionError("all places together hold each text")


def is_tree(text, m, thing, put=()):
    """Whether a thing is a tree for m pins, as point 7 tells it, with these pins put so far."""
    if type(thing) is not tuple or len(thing) != 2:
        return False
    piece, branches = thing
    if piece not in pieces(text) or touches(text, put, piece) or type(branches) is not list:
        return False
    if len(put) == m:
        return branches == []
    if not all(type(branch) is tuple and len(branch) == 2 and type(branch[0]) is int for branch in branches):
        return False
    if [place for place, _ in branches] != touch_places(text, piece):
        return False
    return all(is_tree(text, m, tree, put + (place,)) for place, tree in branches)


def is_form(thing):
    """Whether a thing is a form of copies, as point 9 tells it."""
    if type(thing) is not tuple or len(thing) > 300:
        return False
    signs = 0
    for part in thing:
        if type(part) is not tuple:
            return False
        if len(part) == 2 and part[0] == "sign" and part[1] in list("abcdefghijklmnopqrstuvwxyz"):
            signs += 1
        elif len(part) == 3 and part[0] == "copy" and type(part[1]) is int and type(part[2]) is int:
            if part[1] < 0 or part[2] < 1:
                return False
            signs += part[2]
        else:
            return False
    return signs <= 300 and all(part[0] == "sign" or part[1] + part[2] <= signs for part in thing)


def all_parts(letters, signs, many):
    """Each part of many signs in a form of so many signs in all."""
    parts = [("copy", i, many) for i in range(signs - many + 1)]
    return parts + [("sign", c) for c in letters] if many == 1 else parts


def all_forms(letters, signs, left=None):
    """Each form with so many signs in all, those that go round, too."""
    if left is None:
        left = signs
    if left == 0:
        return [()]
    return [(part,) + rest for many in range(1, left + 1) for part in all_parts(letters, signs, many)
            for rest in all_forms(letters, signs, left - many)]


def part_at(form, place):
    """The part in which a place lies, and the place at which the part begins."""
    begin = 0
    for part in form:
        many = 1 if part[0] == "sign" else part[2]
        if place < begin + many:
            return part, begin
        begin += many
    raise AssertionError("there is no such place")


def sign_behind(form, place):
    """The letter that a place comes to and how many copies are followed to it, or None where it goes round."""
    been = []
    while place not in been:
        been.append(place)
        part, begin = part_at(form, place)
        if part[0] == "sign":
            return part[1], len(been) - 1
        place = part[1] + (place - begin)
    return None


def cut(text):
    """The parts of a text as point 10 cuts them, each length and each earlier place gone through."""
    parts, begin = [], 0
    while begin < len(text):
        fitting = [(many, -i) for i in range(begin) for many in range(1, len(text) - begin + 1)
                   if text[i:i + many] == text[begin:begin + many]]
        if fitting:
            many, i = max(fitting)
            parts.append(("copy", -i, many))
            begin += many
        else:
            parts.append(("sign", text[begin]))
            begin += 1
    return tuple(parts)


def row_text(rows, number):
    """The text of a row, put together anew from its items."""
    return "".join(item if isinstance(item, str) else row_text(rows, item) for item in rows[number])


def puttings(rows, number=None, place=0):
    """Each row and place at which it is put in the last row's text, one for each time."""
    number = len(rows) - 1 if number is None else number
    found = [(number, place)]
    for item in rows[number]:
        if isinstance(item, str):
            place += 1
        else:
            found += puttings(rows, item, place)
            place += len(row_text(rows, item))
    return found


def first_met(rows):
    """For each row the least place at which it is put in, or None."""
    found = puttings(rows)
    return [min((place for other, place in found if other == number), default=None) for number in range(len(rows))]


def pins_of_rows(rows):
    """The pins of rows as point 12 tells them."""
    text = row_text(rows, len(rows) - 1)
    places = {text.index(letter) for letter in text}
    for row, start in zip(rows, first_met(rows)):
        if start is not None:
            for many in range(1, len(row)):
                ahead = "".join(item if isinstance(item, str) else row_text(rows, item) for item in row[:many])
                places.add(start + len(ahead) - 1)
    return tuple(sorted(places))


def some_rows(state):
    """Rows that look like chance, but are the same each time for the same number."""
    rows = []
    for number in range(1 + state % 6):
        row = []
        state = (state * 1103515245 + 12345) % 2 ** 31
        for _ in range(1 + (state >> 16) % 4):
            state = (state * 1103515245 + 12345) % 2 ** 31
            pick = (state >> 16) % (number + 3)
            row.append("abc"[pick] if pick < 3 else pick - 3)
        rows.append(tuple(row))
    return tuple(rows)


def turns(text):
    """The sorted turns, each with the place in the signs at which it begins."""
    signs = text + "."
    return sorted((signs[place:] + signs[:place], place) for place in range(len(signs)))


def turned(text):
    return "".join(turn[-1] for turn, _ in turns(text))


def row_runs(last):
    """The first and the last row of each run."""
    found = []
    for at, sign in enumerate(last):
        if found and last[found[-1][1]] == sign:
            found[-1] = (found[-1][0], at)
        else:
            found.append((at, at))
    return found


def pins_of_turns(text):
    """The pins of the turns as point 13 tells them."""
    told = turns(text)
    signs = len(text) + 1
    ends = {at for run in row_runs(turned(text)) for at in run}
    places = {(told[at][1] - 1) % signs for at in ends}
    return tuple(sorted(places - {len(text)}))


def touched_at(text, pins, piece):
    """The places at which a piece stands with a pin at one of its signs there."""
    return [i for i in standings(text, piece) if any(i <= pin < i + len(piece) for pin in pins)]


def spans_from(text, pins):
    """The place and the length of each part that point 14 tells, but the pins, place by place gone through."""
    groups = {}
    for place in range(len(text)):
        if place not in pins:
            # Of two pins equally far off the left one goes ahead: the place amid is parted from it.
            pin = min(pins, key=lambda pin: (abs(pin - place), pin))
            far = abs(pin - place)
            groups.setdefault((pin, pin < place, far.bit_length()), []).append(place)
    return sorted((min(places), len(places)) for places in groups.values())


def first_strange(text, other):
    """The first piece of the other text that is none of the text's."""
    known = set(pieces(text))
    for piece in pieces(other):
        if piece not in known:
            return piece
    return None


def new_endings(text):
    """How many pieces end at the text's end and stood nowhere ahead of it."""
    return sum(text[i:] not in text[:-1] for i in range(len(text)))


def bounds(text):
    """The greatest of all numbers that a count tells, and all lengths by which it is so."""
    found = pieces(text)
    numbers = {length: -(-sum(len(piece) == length for piece in found) // length)
               for length in range(1, len(text) + 1)}
    best = max(numbers.values(), default=0)
    return best, [length for length in numbers if numbers[length] == best] or [None]
