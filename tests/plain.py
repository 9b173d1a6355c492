"""What the document says, written out word by word and slowly, to compare the program with."""

from itertools import combinations, product


def all_texts(letters, most):
    """Every text of these letters with none to most signs."""
    return ["".join(signs) for many in range(most + 1) for signs in product(letters, repeat=many)]


def all_pins(text):
    """All pins that a text has."""
    places = range(len(text))
    return [pins for many in range(len(text) + 1) for pins in combinations(places, many)]


def standings(text, piece):
    return [i for i in range(len(text)) if text[i:i + len(piece)] == piece]


def pieces(text):
    """Every piece once, the shortest first, those of one length sorted."""
    found = {text[i:j] for i in range(len(text)) for j in range(i + 1, len(text) + 1)}
    return sorted(found, key=lambda piece: (len(piece), piece))


def touches(text, pins, piece):
    return any(i <= pin < i + len(piece) for i in standings(text, piece) for pin in pins)


def first_missed(text, pins):
    for piece in pieces(text):
        if not touches(text, pins, piece):
            return piece
    return None


def nested(kind, core, depth):
    """A thing with tuples or lists around it, depth of them."""
    for _ in range(depth):
        core = kind([core])
    return core


def fibonacci(many):
    """A text of a and b in which no piece stands four times side by side."""
    shorter, longer = "b", "a"
    while len(longer) < many:
        shorter, longer = longer, longer + shorter
    return longer[:many]


def scrambled(letters, many):
    """A text that looks like chance, but is the same each time."""
    state, signs = 7, []
    for _ in range(many):
        state = (state * 1103515245 + 12345) % 2 ** 31
        signs.append(letters[(state >> 16) % len(letters)])
    return "".join(signs)
