"""The errors of the package."""


class PileError(ValueError):
    """Any error of the package; it tells in value what was refused."""

    def __init__(self, value):
        self.value = value


class InvalidHand(PileError):
    """The size of a hand that holds no card."""


class InvalidWay(PileError):
    """Entries that are no way; the value is the index of the first one that is not allowed."""


class InvalidNumber(PileError):
    """A number that is too small."""


class InvalidIndex(PileError):
    """An index at which nothing stands."""


class InvalidPiles(PileError):
    """Told piles that cannot be; the value is the index of the first such pile."""


class NotFitting(PileError):
    """A card that may not be laid."""


class HandFull(PileError):
    """A card for which a hand has no room."""


class NothingToUndo(PileError):
    """There is no deed to take back."""


class Unreadable(PileError):
    """A text that tells nothing."""
