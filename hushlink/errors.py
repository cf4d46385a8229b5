"""The errors that the program raises."""


class HushError(ValueError):
    """The base class of all errors that the program raises."""


class OutOfRange(HushError):
    """A number or a length is not within its bounds."""


class Malformed(HushError):
    """A list or a text does not have the required form."""


class NotAuthentic(HushError):
    """Something sealed does not open."""


class Exhausted(HushError):
    """A key has no numbers left."""


class OutOfOrder(HushError):
    """The call is not possible in this state."""


class Refused(HushError):
    """A rule does not allow it."""


class PowerLost(HushError):
    """A disk has lost its power."""


class BadLine(HushError):
    """A line of a scenario is not valid; the field `line` is its number."""

    def __init__(self, line):
        super().__init__("a line of the scenario is not valid")
        self.line = line
