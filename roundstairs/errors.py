"""The errors of Roundstairs.

An error bears the value that was refused as an attribute; the same value is
its message.
"""


class StairError(Exception):
    """The base class of all errors of Roundstairs."""


class BadField(StairError):
    """The value is none of 2, 3 and 5."""

    def __init__(self, thing):
        self.thing = thing


class BadLength(StairError):
    """The value is no number of places."""

    def __init__(self, thing):
        self.thing = thing


class BadRow(StairError):
    """The value is no row that can stand there."""

    def __init__(self, thing):
        self.thing = thing


class BadBook(StairError):
    """The value is no book."""

    def __init__(self, thing):
        self.thing = thing


class BadPlaces(StairError):
    """The value is no ascending tuple of places."""

    def __init__(self, thing):
        self.thing = thing


class BadStair(StairError):
    """The value is no stair."""

    def __init__(self, thing):
        self.thing = thing


class BadTime(StairError):
    """The value is no time."""

    def __init__(self, thing):
        self.thing = thing


class BadPlace(StairError):
    """The value is no place."""

    def __init__(self, thing):
        self.thing = thing


class BadStretch(StairError):
    """The value is no stretch."""

    def __init__(self, thing):
        self.thing = thing


class BadMaking(StairError):
    """The value is no making of the book."""

    def __init__(self, thing):
        self.thing = thing


class BadStretches(StairError):
    """The value is no tuple of unlike stretches of the list."""

    def __init__(self, thing):
        self.thing = thing


class BadSizes(StairError):
    """The value is no tuple of sizes."""

    def __init__(self, thing):
        self.thing = thing


class BadNumber(StairError):
    """The value is no integer that can stand there."""

    def __init__(self, thing):
        self.thing = thing


class BadTables(StairError):
    """The value is no tables for the stair."""

    def __init__(self, thing):
        self.thing = thing


class BadPrices(StairError):
    """The value is no prices for the stair."""

    def __init__(self, thing):
        self.thing = thing


class NotFull(StairError):
    """The book is not full."""


class NotTrim(StairError):
    """The stair is not trim, as the certificate shows."""

    def __init__(self, certificate):
        self.certificate = certificate


class TooMany(StairError):
    """There would be more than the most that can be."""

    def __init__(self, most):
        self.most = most
