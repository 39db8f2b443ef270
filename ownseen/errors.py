"""The errors of the package, all of them directly below SeenError."""


class SeenError(ValueError):
    """The base of all errors of the package."""


class BadNumber(SeenError):
    """An integer is none, or not within its bounds."""

    def __init__(self, part):
        self.part = part


class BadLot(SeenError):
    """A lot of numbers is none."""

    def __init__(self, part):
        self.part = part


class BadKind(SeenError):
    """A kind is none."""

    def __init__(self, part):
        self.part = part


class BadValue(SeenError):
    """A value of a class of the package is none."""

    def __init__(self, part):
        self.part = part


class BadTable(SeenError):
    """A clash table is none."""

    def __init__(self, part):
        self.part = part


class BadOrder(SeenError):
    """An order of deals is none."""

    def __init__(self, part):
        self.part = part


class BadStamps(SeenError):
    """Stamps are none."""

    def __init__(self, part):
        self.part = part


class BadLog(SeenError):
    """A log is none."""

    def __init__(self, part):
        self.part = part


class BadDisk(SeenError):
    """The blocks of a disk are none."""

    def __init__(self, part):
        self.part = part


class BadProgram(SeenError):
    """A program is none."""

    def __init__(self, part):
        self.part = part


class BadScript(SeenError):
    """A script is none."""

    def __init__(self, part):
        self.part = part


class BadPaper(SeenError):
    """A paper is none."""

    def __init__(self, part):
        self.part = part


class Misfit(SeenError):
    """Values that are right by themselves do not fit together."""

    def __init__(self, part):
        self.part = part


class BadEvents(SeenError):
    """The event with the index at is the first one that cannot stand."""

    def __init__(self, at):
        self.at = at


class TooMany(SeenError):
    """There are more than most."""

    def __init__(self, what, most):
        self.what = what
        self.most = most


class Impossible(SeenError):
    """What was asked for cannot be; the paper shows it."""

    def __init__(self, paper):
        self.paper = paper


class Full(SeenError):
    """There is no room."""

    def __init__(self, what):
        self.what = what


class Out(SeenError):
    """The plug is out."""


class BadText(SeenError):
    """The item with this index is the first one that cannot stand, or is missing."""

    def __init__(self, item):
        self.item = item
