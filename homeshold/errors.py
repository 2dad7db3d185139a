"""The errors of the package: each kind of failure has a class of its own."""


class HomeError(ValueError):
    """What all errors of the package have in common."""


class NoMembers(HomeError):
    """What was passed is no members."""


class NoText(HomeError):
    """What was passed is no text."""


class NoPieces(HomeError):
    """What was passed is no tuple of pieces that make up a text."""


class NoTable(HomeError):
    """What was passed is no table, or none that is asked for here."""


class NoDeed(HomeError):
    """What was passed is no deed, or none that this table lets."""


class NoName(HomeError):
    """What was passed is no name."""


class NoHomeNumber(HomeError):
    """What was passed is no home, or none that is asked for here."""


class NoLetter(HomeError):
    """What was passed is no letter, or isn't to this home or hand."""


class NoOp(HomeError):
    """What was passed is no operation."""


class Busy(HomeError):
    """The hand does an operation already."""


class NoArea(HomeError):
    """What was passed is no area of a disk."""


class NoNumber(HomeError):
    """What was passed is no integer within the limits that are told."""


class NoStand(HomeError):
    """No area of the disk stands."""


class NoDisk(HomeError):
    """What was passed is no disk."""


class NoEvent(HomeError):
    """What was passed is no event, or none that the world lets now."""


class NoHand(HomeError):
    """What was passed is no living hand."""


class NoHistory(HomeError):
    """What was passed is no history."""


class NoThing(HomeError):
    """What was passed is no thing that has a text."""


class NoItems(HomeError):
    """What was passed is no thing that a disk takes, or no tuple of such."""


class NoPrime(HomeError):
    """What was passed is no prime that is asked for here."""


class NoNumbers(HomeError):
    """What was passed is no lot of numbers."""


class NoPlaces(HomeError):
    """What was passed are no places."""


class NoValues(HomeError):
    """What was passed are no values."""


class NoPolynomial(HomeError):
    """What was passed is no polynomial."""


class NoStamp(HomeError):
    """What was passed is no stamp."""


class Unlet(HomeError):
    """The world doesn't let this happen."""


class NoDay(HomeError):
    """The text does not begin with a world that can be made."""


class NoItem(HomeError):
    """The item at this index of a disk is no deed that can be done."""

    def __init__(self, index):
        self.index = index


class BadText(HomeError):
    """No text of a thing can go on at this place."""

    def __init__(self, place):
        self.place = place


class TooMany(HomeError):
    """There are more than so many."""

    def __init__(self, most):
        self.most = most
