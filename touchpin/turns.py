"""The sorted turns of a text: their last signs, these turned back, and pins from their runs."""

from touchpin.errors import NoTurned

# In Python's order the point goes ahead of all letters.
POINT = "."


def turned(text):
    """The last signs of the sorted turns."""
    signs = text + POINT
    # Ahead of the first sign comes the last one, as the signs are turned round.
    return "".join([signs[start - 1] for start in sorted_starts(text)])


def sorted_starts(text):
    """The places at which the turns begin, in the order of the turns."""
    signs = text + POINT
    return sorted(list(range(len(signs))), key=lambda start: signs[start:] + signs[:start])


def turned_back(last):
    """The text whose turned text this is; refused where it is no text's."""
    if last.count(POINT) != 1:
        raise NoTurned("a turned text has one point")
    text = walked(last)
    # Where more than one round is walked, signs are left out, and the turned text is a shorter one.
    if turned(text) != last:
        raise NoTurned("no text is turned to this")
    return text


def walked(last):
    """The signs from the turn that ends in the point on, each from the turn that begins a sign later."""
    # The first signs are the last ones sorted, and equal ones keep their order.
    later = sorted(list(range(len(last))), key=lambda row: last[row])
    letters = []
    row = later[last.index(POINT)]
    while last[row] != POINT:
        letters.append(last[row])
        row = later[row]
    return "".join(letters)


def runs(last):
    """How many runs of one sign there are."""
    return len([row for row in range(len(last)) if begins_run(last, row)])


def begins_run(last, row):
    """Whether the sign of this row is the first one of a run."""
    return row == 0 or last[row - 1] != last[row]


def ends_run(last, row):
    """Whether the sign of this row is the last one of a run."""
    return row == len(last) - 1 or last[row + 1] != last[row]


def pins_of_turns(text):
    """The places of the first and of the last sign of each run but the point's."""
    last = turned(text)
    places = []
    for row, start in enumerate(sorted_starts(text)):
        if last[row] != POINT and (begins_run(last, row) or ends_run(last, row)):
            places.append(start - 1)
    return tuple(sorted(places))
