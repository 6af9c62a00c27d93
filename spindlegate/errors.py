"""The refusals of functions: each one is a direct subclass of SpindleError."""


class SpindleError(ValueError):
    """A function refused what it was asked for."""


class NotValid(SpindleError):
    """An argument is outside of its bounds."""


class PowerOff(SpindleError):
    """The power is off, or it failed in this operation."""


class BadFlash(SpindleError):
    """A flash does not hold a valid log."""


class NoRoom(SpindleError):
    """No page is free for a record."""
