"""The errors of the library."""


class PoolhopesError(ValueError):
    """Any error that the library raises on purpose."""


class InvalidEvent(PoolhopesError):
    """What was asked of a desk or a house is no event there."""

    def __init__(self, event):
        self.event = event


class Refused(PoolhopesError):
    """A claim is wrong; the ending shows it."""

    def __init__(self, ending):
        self.ending = ending


class TooMany(PoolhopesError):
    """There is more to look through than a limit allows."""

    def __init__(self, limit):
        self.limit = limit


class InvalidText(PoolhopesError):
    """A text writes no sheet."""
