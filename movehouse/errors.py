"""The errors with which the program refuses what it is asked."""


class MoveError(ValueError):
    """What is asked is refused; each kind of refusal stands straight under this class."""


class BadWorld(MoveError):
    """The keys or the count of callers do not make a world."""


class NoCaller(MoveError):
    """There is no such caller."""


class NoHouse(MoveError):
    """There is no such house."""


class NoKey(MoveError):
    """There is no such key."""


class BadWish(MoveError):
    """What was handed in is no wish."""


class Busy(MoveError):
    """The caller has an open call already."""


class Idle(MoveError):
    """The caller has no open call."""


class NotHere(MoveError):
    """The key is not here, so it cannot be moved from here."""


class NoLetter(MoveError):
    """There is no letter at this place of the post."""
