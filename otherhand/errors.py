"""The errors of the package.

No error puts its fields into a wording: they may be any values, and numbers
of thousands of digits cannot be told as strings.
"""


class HandError(ValueError):
    """The base of all errors of the package."""


class BadWeb(HandError):
    """What is no web, or no right part of one."""

    def __init__(self, part):
        self.part = part


class BadBody(HandError):
    """What is no body, or no right part of one."""

    def __init__(self, part):
        self.part = part


class BadLot(HandError):
    """What is no list of integers."""

    def __init__(self, part):
        self.part = part


class BadRow(HandError):
    """What is no row of images, or no such renaming."""

    def __init__(self, part):
        self.part = part


class BadPicture(HandError):
    """What is no picture, or no right part of one."""

    def __init__(self, part):
        self.part = part


class BadNames(HandError):
    """What are no names of the marks of a web."""

    def __init__(self, part):
        self.part = part


class BadMixture(HandError):
    """What is no mixture, or no right part of one."""

    def __init__(self, part):
        self.part = part


class BadWork(HandError):
    """What is no work, or no right part of one."""

    def __init__(self, part):
        self.part = part


class BadSaying(HandError):
    """What is no saying, or no right part of one."""

    def __init__(self, part):
        self.part = part


class BadWindow(HandError):
    """What is no row of windows."""

    def __init__(self, part):
        self.part = part


class BadFrame(HandError):
    """What is no frame, or no right part of one."""

    def __init__(self, part):
        self.part = part


class BadNumber(HandError):
    """What is no integer within the bounds."""

    def __init__(self, part):
        self.part = part


class BadPaper(HandError):
    """What is no class of papers."""

    def __init__(self, part):
        self.part = part


class BadDesk(HandError):
    """What is no desk, or no right part of one."""

    def __init__(self, part):
        self.part = part


class Misfit(HandError):
    """Values that do not fit together."""

    def __init__(self, part):
        self.part = part


class Missing(HandError):
    """Any value that is none here; raised nowhere itself."""

    def __init__(self, value):
        self.value = value


class NoPiece(Missing):
    """What is no piece of the web."""

    def __init__(self, value):
        self.value = value


class NoMark(Missing):
    """What is no mark of the web."""

    def __init__(self, value):
        self.value = value


class NoTie(Missing):
    """What is no tie of the web."""

    def __init__(self, value):
        self.value = value


class NoName(Missing):
    """A name under which nothing is kept."""

    def __init__(self, value):
        self.value = value


class Twice(HandError):
    """A value that stands there already."""

    def __init__(self, value):
        self.value = value


class Impossible(HandError):
    """What cannot be, with a denial that shows it."""

    def __init__(self, paper):
        self.paper = paper


class TooMany(HandError):
    """There are more than most."""

    def __init__(self, what, most):
        self.what = what
        self.most = most


class Nothing(HandError):
    """There is nothing to speak of, to take back, or to do again."""

    def __init__(self):
        super().__init__()


class BadText(HandError):
    """A text that cannot be read, and the item that cannot stand."""

    def __init__(self, line, item):
        self.line = line
        self.item = item


class BadLine(HandError):
    """A line of a desk, and the error raised there."""

    def __init__(self, line, error):
        self.line = line
        self.error = error
