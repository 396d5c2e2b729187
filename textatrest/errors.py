"""The errors of the package."""


class RestError(ValueError):
    """The base class of all errors of the package."""


class OutOfRange(RestError):
    """An argument is beyond its bounds; the field name tells which one."""

    def __init__(self, name):
        super().__init__(f"{name} is out of range")
        self.name = name


class HasLeft(RestError):
    """The hand has left and does no deed any more."""


class NotAllowed(RestError):
    """The deed is not allowed."""


class IsFinal(RestError):
    """The writing is final and cannot be toggled any more."""


class NoSign(RestError):
    """No put of the sign is in the history."""


class NotKept(RestError):
    """The disk holds no log."""


class NotOpen(RestError):
    """The log, or the house, cannot be used any more."""


class LogFull(RestError):
    """Fewer blocks are left than are needed."""


class PowerCut(RestError):
    """The power of the disk was cut."""


class NoLetter(RestError):
    """There is no letter at this index of the row."""
