"""All errors of the package, in four families."""


class TongueError(ValueError):
    """The base class of all errors."""


class PaperError(TongueError):
    """What is told is not what it should be."""


class UseError(TongueError):
    """What is asked cannot be done."""


class HouseError(TongueError):
    """Names and deeds do not allow it."""


class TextError(TongueError):
    """What is read is not written as it should be."""


class InvalidPaper(PaperError):
    """A checker does not accept what it was given."""

    def __init__(self, word, at):
        self.word = word
        self.at = at


class NotUsable(UseError):
    """A parameter is not as stated."""

    def __init__(self, word, at):
        self.word = word
        self.at = at


class TooMuch(UseError):
    """The result would be too large."""

    def __init__(self, word):
        self.word = word


class NoSuch(HouseError):
    """There is nothing of this name."""

    def __init__(self, name):
        self.name = name


class Taken(HouseError):
    """There is already something of this name."""

    def __init__(self, name):
        self.name = name


class InUse(HouseError):
    """Something else needs what has this name."""

    def __init__(self, name):
        self.name = name


class NothingToUndo(HouseError):
    """There are only so many steps to take back."""

    def __init__(self, steps):
        self.steps = steps


class InvalidText(TextError):
    """A field of a text cannot stand there."""

    def __init__(self, line, field):
        self.line = line
        self.field = field
