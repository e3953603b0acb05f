"""The errors of the package, one class for each kind of failure.

The values are kept just as they are passed. No message is made of them, since
they may be anything, also a number too long to be written.
"""


class WalkError(ValueError):
    """The base class of all errors."""


class InvalidText(WalkError):
    """A text of a site has a row that is not right."""

    def __init__(self, row):
        self.row = row


class NoWay(WalkError):
    """A place would have no way, and one may not stay there."""

    def __init__(self, place):
        self.place = place


class BadStarts(WalkError):
    """A value is no list of starts."""


class BadStanding(WalkError):
    """A value is no standing."""


class BadMove(WalkError):
    """A value is no move where it is made."""

    def __init__(self, index):
        self.index = index


class NotBack(WalkError):
    """A tour does not lead the walkers back."""


class NotCalm(WalkError):
    """A standing is not calm."""


class UnknownPlace(WalkError):
    """A value is not the name of a place of the site."""

    def __init__(self, place):
        self.place = place


class NotKept(WalkError):
    """A site, or a list of requests, is not kept."""


class TooLarge(WalkError):
    """There is too much to be looked at."""


class BadAsking(WalkError):
    """Values are no rules for requests."""


class BadRule(WalkError):
    """A value is no rule."""


class Unfit(WalkError):
    """A state of a rule does not fit."""

    def __init__(self, number):
        self.number = number


class BadRequest(WalkError):
    """A value may not be requested where it is."""

    def __init__(self, index):
        self.index = index


class BadLimit(WalkError):
    """A value is no limit."""


class BadWay(WalkError):
    """A way can't be opened, or can't be shut."""


class TooManyWalkers(WalkError):
    """There are two walkers already."""


class NoDeed(WalkError):
    """There is no deed to take back."""
