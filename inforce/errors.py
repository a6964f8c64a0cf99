"""The errors of the package."""


class PriceError(ValueError):
    """What the package does not take; `value` is what was wrong."""

    def __init__(self, value):
        self.value = value


class InvalidDay(PriceError):
    """A day is below 0."""


class DoubleDay(PriceError):
    """A day has a second entry."""


class InvalidDeed(PriceError):
    """A tuple is no deed."""


class UnknownDeed(PriceError):
    """An index at which there is no deed."""


class LateDeed(PriceError):
    """An index at which a deed would come too late."""


class NothingToUndo(PriceError):
    """There is nothing that could be taken back."""


class Unreadable(PriceError):
    """A text that no list and no program has."""
