"""The errors of the package, one class for each kind of failure."""


class KeepError(ValueError):
    """The base class of all errors of the package."""


class OutOfRange(KeepError):
    """An argument lies outside its bounds; name tells which one."""

    def __init__(self, name):
        super().__init__(f"{name} is out of range")
        self.name = name


class Impossible(KeepError):
    """A step of an execution is not possible; step is its index."""

    def __init__(self, step):
        super().__init__(f"step {step} is not possible")
        self.step = step


class NoRoot(KeepError):
    """The node has no such root."""


class NotObject(KeepError):
    """The root refers to an import, which has no fields here."""


class NoField(KeepError):
    """The object has no such field."""


class NoEntry(KeepError):
    """There is no such entry."""


class NoObject(KeepError):
    """There is no such object."""


class WrongMessage(KeepError):
    """The message is not one that this node can have been sent."""


class Inconsistent(KeepError):
    """A report has seen more from a member than that one had sent."""


class NoReport(KeepError):
    """A report that is needed is not there."""


class NotKept(KeepError):
    """The disk holds no log."""


class NotOpen(KeepError):
    """The log or the house can no longer be used."""


class LogFull(KeepError):
    """The log has no room for the record."""


class PowerCut(KeepError):
    """The power of the disk was cut."""


class NoLetter(KeepError):
    """There is no such letter."""


class Reclaims(KeepError):
    """A step of the execution reclaims."""
