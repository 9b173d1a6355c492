"""The refusals of the package."""


class PinError(ValueError):
    """Any refusal."""


class TooMany(PinError):
    """More signs than are taken."""


class NoTurned(PinError):
    """Signs that are the turned text of no text."""


class NoRow(PinError):
    """A row that the desk does not take."""


# The messages leave the fields out: a field may be anything, also what cannot be written.


class GoesRound(PinError):
    """A place from which copies are followed without end."""

    def __init__(self, place):
        PinError.__init__(self, "from this place copies go round")
        self.place = place


class Missed(PinError):
    """A piece that no pin touches."""

    def __init__(self, piece):
        PinError.__init__(self, "the pins miss this piece")
        self.piece = piece


class NoText(PinError):
    """The number of a word, or of a line, that writes nothing."""

    def __init__(self, number):
        PinError.__init__(self, "this word or line writes nothing")
        self.number = number
