"""Every error that the package raises, each right under RoomError.

What is refused may be of any size and kind, so no message shows it:
Python does not even write out a very long number.
"""


class RoomError(ValueError):
    """What is handed in is refused."""


class NotFew(RoomError):
    """The net isn't few: heap is a bar of it."""

    def __init__(self, heap):
        RoomError.__init__(self, "the net is not few")
        self.heap = heap


class NoName(RoomError):
    """name is no name, or no book stands by it."""

    def __init__(self, name):
        RoomError.__init__(self, "this is no name of a book")
        self.name = name


class Standing(RoomError):
    """A book stands by this name already."""

    def __init__(self, name):
        RoomError.__init__(self, "a book stands by this name")
        self.name = name


class Full(RoomError):
    """There are as many as there may be: most."""

    def __init__(self, most):
        RoomError.__init__(self, "there are as many as there may be")
        self.most = most


class NoMark(RoomError):
    """number is no mark that stands."""

    def __init__(self, number):
        RoomError.__init__(self, "this is no mark that stands")
        self.number = number


class NoPrime(RoomError):
    """This is no prime from 2 to 97."""


class NoNumber(RoomError):
    """This is no number of the kind that is due."""


class NoMatrix(RoomError):
    """This is no matrix by the prime."""


class NoFit(RoomError):
    """Sizes don't fit, or what is told would be too large."""


class NoNet(RoomError):
    """These rooms and arrows make no net."""


class NoRoom(RoomError):
    """This is no room of the net."""


class NoHeap(RoomError):
    """This is no heap of the net."""


class NoEnd(RoomError):
    """This is no end of the net."""


class NoRoot(RoomError):
    """This is no root of the net."""


class NoBook(RoomError):
    """This is no book over the net."""


class NoMap(RoomError):
    """This is no map of the one book to the other."""


class NoTie(RoomError):
    """This is no tie of the one book over the other."""


class NoCounts(RoomError):
    """These are no counts."""


class NoPaper(RoomError):
    """This is no paper that can be looked at."""


class TooGreat(RoomError):
    """The heap of what is told would be none."""


class TooMany(RoomError):
    """There are more than may be told or counted."""
