"""The errors of the package."""


class PageError(ValueError):
    """The base class of all errors of the package."""


class OutOfRange(PageError):
    """An argument is not within its bounds; name tells which one."""

    def __init__(self, name):
        super().__init__(f"{name} is out of range")
        self.name = name


class TooManySources(PageError):
    """There would be more sources than are allowed."""


class NotKept(PageError):
    """A disk holds no log."""


class NotOpen(PageError):
    """A log or a house cannot be used, or not any more."""


class LogFull(PageError):
    """A log has not enough blocks left."""


class PowerCut(PageError):
    """The power of a disk was cut."""


class NoLetter(PageError):
    """There is no letter at an index of a row."""


class UnlikeLetters(PageError):
    """A letter contradicts one that was heard before."""
