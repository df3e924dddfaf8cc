"""The refusals, one class for each kind of thing that is refused."""


class PoundError(ValueError):
    """The base of all refusals."""


class NoCanal(PoundError):
    """What was handed in is no canal."""


class NoRow(PoundError):
    """What was handed in is no row of passings of the canal."""


class Barred(PoundError):
    """A passing is not let."""


class NoDay(PoundError):
    """What was handed in is no day of the canal."""


class NoTable(PoundError):
    """What was handed in is no table of the canal."""


class NoLock(PoundError):
    """What was handed in is no lock of the canal."""


class NoBook(PoundError):
    """What was handed in is no book of a lock of the canal."""


class NoBooks(PoundError):
    """What was handed in are no books of the canal's locks."""


class NoNumber(PoundError):
    """What was handed in is no number of a table."""


class NoSights(PoundError):
    """What was handed in are no sights."""


class NoneAgree(PoundError):
    """No table agrees with the sights."""


class NoGates(PoundError):
    """What was handed in are no gates of the canal."""


class NoWay(PoundError):
    """What was handed in is no way."""


class NoBoat(PoundError):
    """What was handed in is no boat of the way."""


class NoPlace(PoundError):
    """What was handed in is no place among the boats of the way."""


class NoDeed(PoundError):
    """There is no deed to undo."""


class NoText(PoundError):
    """What was handed in is no text of such a thing."""


class NoLine(PoundError):
    """What was handed in is no line that the desk knows."""


class TooMany(PoundError):
    """There would be many, and most is the most that there may be."""

    def __init__(self, many, most):
        PoundError.__init__(self, f"{many} are too many: there may be {most}")
        self.many = many
        self.most = most
