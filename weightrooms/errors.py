"""The refusals: one base, and each class straight under it."""


class RoomError(ValueError):
    """Any refusal."""


class NoFraction(RoomError):
    """A bottom of 0, or a division by (0, 1)."""


class NoBox(RoomError):
    """What is no box, or makes none."""


class NoWay(RoomError):
    """A text that is neither of the two ways."""


class NoWeights(RoomError):
    """What is no list of weights, or no weight."""


class TooMany(RoomError):
    """More things than the document lets be asked of."""


class NoTree(RoomError):
    """What is no tree for the things."""


class NoRule(RoomError):
    """A text that is none of the rules."""


class NoKind(RoomError):
    """A text that is none of the kinds of trees."""


class NoName(RoomError):
    """What is no name of a thing."""


class Taken(RoomError):
    """A name that a thing bears already."""


class Unknown(RoomError):
    """A thing that is not there."""


class NoThing(RoomError):
    """What is no list of things."""


class NoCut(RoomError):
    """Boxes that no line cuts; numbers tells which, rising."""

    def __init__(self, numbers):
        # A copy, so that whoever takes the error has a list of their own.
        self.numbers = list(numbers)


class NoText(RoomError):
    """What is the text of nothing that is to be read."""


class NoRow(RoomError):
    """A line that the desk doesn't know."""
