"""All errors of the package."""


class LeaseError(ValueError):
    """The base of all other errors of the package."""


class NoText(LeaseError):
    """What should be a text is none."""


class NoEdit(LeaseError):
    """What should be an edit is none."""


class Unfit(LeaseError):
    """An edit can't be done on this text."""


class NoTable(LeaseError):
    """What should be a server's table is none."""


class NoDeed(LeaseError):
    """What should be a deed of a table is none."""


class NoName(LeaseError):
    """What should be a name is none."""


class NoLetter(LeaseError):
    """What should be a letter to this machine is none."""


class NoSheet(LeaseError):
    """What should be a client's sheet is none."""


class NoNote(LeaseError):
    """What should be a deed of a sheet is none."""


class NoOp(LeaseError):
    """What should be an operation is none."""


class Busy(LeaseError):
    """An operation runs, so another one can't begin."""


class NoClient(LeaseError):
    """What should be a client, here one that can answer, is none."""


class NoMachine(LeaseError):
    """What should be a machine is none."""


class NoEvent(LeaseError):
    """What should be an event that can happen now is none."""


class NoDisk(LeaseError):
    """What should be a disk is none."""


class NoArea(LeaseError):
    """What should be an area of a disk is none."""


class NoNumber(LeaseError):
    """What should be a number within the told bounds is none."""


class NoStand(LeaseError):
    """No area of the disk stands."""


class NoThing(LeaseError):
    """What should be a thing is none."""


class NoItems(LeaseError):
    """What should be items for a disk are none."""


class NoHistory(LeaseError):
    """What should be a history is none."""


class NoPrime(LeaseError):
    """What should be a prime is none."""


class NoNumbers(LeaseError):
    """What should be a lot of numbers is none."""


class NoPlaces(LeaseError):
    """What should be places is none."""


class NoValues(LeaseError):
    """What should be values is none."""


class NoPolynomial(LeaseError):
    """What should be a polynomial is none."""


class NoStamp(LeaseError):
    """What should be a stamp is none."""


class NoDay(LeaseError):
    """What should be the text of a day is none."""


class NoKind(LeaseError):
    """What should be a kind of lease is none."""


class Unlet(LeaseError):
    """The world doesn't let this happen."""


class NoItem(LeaseError):
    """An item of a disk is no deed; index tells which item."""

    def __init__(self, index):
        self.index = index


class BadText(LeaseError):
    """A text is the text of no thing; place tells the first sign that is wrong."""

    def __init__(self, place):
        self.place = place
