"""The errors that the program raises."""


class NearbyError(ValueError):
    """The base class of all errors that the program raises."""


class InvalidText(NearbyError):
    """A text is no network text; `line` is the number of its first wrong line."""

    def __init__(self, line):
        NearbyError.__init__(self, f"line {line} is wrong")
        self.line = line


class InvalidNetwork(NearbyError):
    """Names and neighbors do not make a network."""


class InvalidBounds(NearbyError):
    """Bounds do not suit a network."""


class InvalidInput(NearbyError):
    """An argument has a wrong length or is out of its range."""


class InvalidBall(NearbyError):
    """A ball or a view does not reach far enough."""


class InvalidLift(NearbyError):
    """Sheets and shifts do not make a lift."""


class TooLarge(NearbyError):
    """A question is too large to be answered."""
