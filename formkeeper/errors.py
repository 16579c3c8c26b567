"""The errors of the program."""


class FormkeeperError(ValueError):
    """The base class of all errors of the program."""

    def __init__(self, place):
        self.place = place
        self.name = self.__class__.__name__


class Truncated(FormkeeperError):
    """Octets are missing."""


class InvalidText(FormkeeperError):
    """An octet is not the code of a character of a text."""


class InvalidJson(FormkeeperError):
    """A text is no JSON text."""


class InvalidSchema(FormkeeperError):
    """A JSON value stands for no schema."""


class InvalidData(FormkeeperError):
    """Octets or a JSON value stand for no value of a shape."""


class Unreadable(FormkeeperError):
    """A value of one schema cannot be read as a value of another one."""


class Damaged(FormkeeperError):
    """Octets that were kept have changed."""


class InvalidContainer(FormkeeperError):
    """Octets are no container."""


class PowerLost(FormkeeperError):
    """A disk has no allowance left."""


class InvalidHttp(FormkeeperError):
    """Octets are no message."""


class LineCut(FormkeeperError):
    """A line is cut."""
