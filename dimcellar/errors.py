"""All refusals: of what is handed in (CellarError), and of how things lie in a cellar (HereError)."""


class CellarError(ValueError):
    """What is handed in is refused."""


class NoMaker(CellarError):
    """No text of one to eight small letters."""


class NoYear(CellarError):
    """No whole number from 1900 to 2100."""


class NoSize(CellarError):
    """Neither 37, 75 nor 150."""


class NoBottle(CellarError):
    """Not a bottle."""


class NoBottles(CellarError):
    """Not a list of bottles."""


class NoRooms(CellarError):
    """No tuple of one to four whole numbers from 1 to 4."""


class NoHold(CellarError):
    """No whole number from 1 to 9."""


class NoMonth(CellarError):
    """No whole number from 0 to 999."""


class NoWho(CellarError):
    """No text of none to eight small letters."""


class NoSet(CellarError):
    """No rising tuple of two to six whole numbers, or a bottle that is in no set."""


class NoDeed(CellarError):
    """No deed is left that could be undone."""


class NoSpans(CellarError):
    """No dict of numbers with their spans."""


class NoSpan(CellarError):
    """No tuple of two months, the first no more than the last."""


class NoRate(CellarError):
    """No whole number from 1 to 4."""


class NoWishes(CellarError):
    """No list of none to six wishes."""


class NoNotes(CellarError):
    """No list of one to six notes."""


class NoOrder(CellarError):
    """No tuple of all makers of the notes, each once."""


class NoList(CellarError):
    """No tuple of one to six numbers and gaps."""


class NoLost(CellarError):
    """No rising tuple of as many numbers as a list has gaps."""


class NoHints(CellarError):
    """No list of none to eight hints."""


class NoWay(CellarError):
    """No way to make a lost list whole."""


class NoLine(CellarError):
    """No line that a desk knows."""


class NoNumber(CellarError):
    """No number of a bottle."""


class NoPlace(CellarError):
    """No room's and shelf's number together."""


class TooMany(CellarError):
    """How many there would be, and how many may be."""

    def __init__(self, many, most):
        self.many = many
        self.most = most


class Crowded(CellarError):
    """The least stretch of months in which more spans lie than it has room for, and how many these are."""

    def __init__(self, first, last, many):
        self.first = first
        self.last = last
        self.many = many


class NoText(CellarError):
    """The number of the first line that is none, from 1 on; 0 of what is no text."""

    def __init__(self, line=0):
        self.line = line


class HereError(LookupError):
    """How things lie in the cellar forbids the deed."""


class Full(HereError):
    """The shelf holds no more."""

    def __init__(self, room, shelf):
        self.room = room
        self.shelf = shelf


class Gone(HereError):
    """The bottle doesn't lie there any more; its fate tells why."""

    def __init__(self, number, fate):
        self.number = number
        self.fate = fate


class Kept(HereError):
    """The bottle is bound to a set; the others are the rest of it."""

    def __init__(self, number, others):
        self.number = number
        self.others = others
