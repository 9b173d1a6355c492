"""A desk that is told rows about a text and its pins and answers each with a text."""

from touchpin.asked import seek
from touchpin.back import copies_from
from touchpin.errors import NoRow
from touchpin.growing import Growing
from touchpin.least import least
from touchpin.pieces import all_letters, is_one_letter, is_text
from touchpin.pins import first_missed, is_pins
from touchpin.texts import form_text, read_number
from touchpin.turns import turned

NOTHING = "-"


def answer_holds(growing, pins):
    """Whether the pins hold, or the first piece that they miss."""
    missed = first_missed(growing.text(), pins)
    return "yes" if missed is None else f"no {missed}"


def answer_least(growing, pins):
    """The least number of pins, and such pins."""
    number, found, tree = least(growing.text())
    return " ".join([str(each) for each in (number, *found)])


def answer_bound(growing, pins):
    """The bound by counts, and its length."""
    number, length = growing.bound()
    return str(number) if length is None else f"{number} {length}"


def answer_cut(growing, pins):
    """The form that the text is cut into."""
    return form_answer(growing.parts())


def answer_back(growing, pins):
    """A form from the pins."""
    return form_answer(copies_from(growing.text(), pins))


def form_answer(form):
    """A form's text, which is never one without signs here."""
    return form_text(form) if form else NOTHING


def answer_turned(growing, pins):
    """The turned text."""
    return turned(growing.text())


# What is asked by one word alone.
ANSWERS = {
    "holds": answer_holds,
    "least": answer_least,
    "bound": answer_bound,
    "cut": answer_cut,
    "back": answer_back,
    "turned": answer_turned,
}


class Desk:
    """A desk, at first without a text."""

    def __init__(self):
        self.growing = None
        self.pinned = ()

    def say(self, row):
        """The answer to a row; refused where it is none, or where what it asks for is."""
        words = row.split(" ")
        word, rest = words[0], words[1:]
        if word == "text" and len(rest) == 1:
            return self.begin(rest[0])
        if self.growing is None:
            raise NoRow("there is no text to this row")
        if word in ANSWERS and not rest:
            answer = ANSWERS[word]
            return answer(self.growing, self.pinned)
        if word == "pins" and rest:
            return self.pin(rest)
        if word == "put" and len(rest) == 1 and is_one_letter(rest[0]):
            return str(self.growing.put(rest[0]))
        if word == "seek" and len(rest) == 1 and rest[0] and all_letters(rest[0]):
            return self.sought(rest[0])
        raise NoRow("this row is none of a desk's")

    def begin(self, word):
        """Take a text anew, without pins."""
        signs = "" if word == NOTHING else word
        if not word or not is_text(signs):
            raise NoRow("this is no text")
        self.growing = Growing()
        for letter in signs:
            self.growing.put(letter)
        self.pinned = ()
        return "ok"

    def pin(self, words):
        """Take other pins."""
        pins = () if words == [NOTHING] else tuple([read_number(word) for word in words])
        if not is_pins(self.growing.text(), pins):
            raise NoRow("these are no pins of the text")
        self.pinned = pins
        return "ok"

    def sought(self, piece):
        """Where a piece stands over a pin."""
        place = seek(self.growing.parts(), self.pinned, piece)
        return "none" if place is None else str(place)
