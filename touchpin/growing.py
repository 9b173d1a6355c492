"""A text that grows letter by letter, with what is told of it kept."""

from touchpin.copies import cut, last_places
from touchpin.counted import bound_by
from touchpin.errors import TooMany
from touchpin.pieces import MOST_SIGNS


class Growing:
    """A text without signs at first, behind which letters are put."""

    def __init__(self):
        self.signs = ""
        # How many unlike pieces there are of each length from 1 on.
        self.unlike = []
        # How many signs the longest ending has that stands at an earlier place, too.
        self.known = 0

    def put(self, c):
        """Put a letter behind the text; told is how many unlike pieces come with it."""
        if len(self.signs) >= MOST_SIGNS:
            raise TooMany("a text has at most 300 signs")
        ahead = self.signs
        self.signs = ahead + c
        self.known = known_ending(ahead, self.signs, self.known + 1)
        self.unlike.append(0)
        # What ends in a strange ending is strange, too: all endings longer than the known one are new.
        for at in range(self.known, len(self.unlike)):
            self.unlike[at] += 1
        return len(self.signs) - self.known

    def text(self):
        """The text so far."""
        return self.signs

    def many(self):
        """How many unlike pieces there are."""
        return sum(self.unlike)

    def parts(self):
        """The text cut into a form of copies."""
        return cut(self.signs)

    def pins(self):
        """The pins of the cut form, which hold."""
        return last_places(cut(self.signs))

    def bound(self):
        """The bound by counts and its length."""
        return bound_by(self.unlike)


def known_ending(ahead, signs, most):
    """The length of the longest ending of the signs, at most so long, that stood in what was ahead."""
    # An ending that is known without its last sign was known before, so that it is one sign longer at most.
    many = most
    while signs[len(signs) - many:] not in ahead:
        many -= 1
    return many
