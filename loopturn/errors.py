"""The refusals of the package."""


class LoopError(ValueError):
    """Any refusal."""


class NoText(LoopError):
    """What was handed in is not a text of the asked form."""


class NoFit(LoopError):
    """What was asked does not fit the program."""


class TooMany(LoopError):
    """There is more of something than a point lets."""


class OutOfOrder(LoopError):
    """Two doings that touch would be done the other way round."""

    def __init__(self, first, second):
        self.first = first
        self.second = second
