"""The errors of the package, one class for each kind of failure."""


class NotAMove(ValueError):
    """The value is no tuple of four integers with a d - b c = 1."""

    def __init__(self, value):
        self.value = value


class NotAValue(ValueError):
    """The value is neither a fraction in lowest terms nor infinity."""

    def __init__(self, value):
        self.value = value


class NotAWord(ValueError):
    """The value is no string of the letters s, r, R."""

    def __init__(self, value):
        self.value = value


class NotReduced(ValueError):
    """Two neighbouring letters of the word multiply to a kind."""

    def __init__(self, word):
        self.word = word


class InvalidProgram(ValueError):
    """The program at the path is not as it has to be."""

    def __init__(self, path):
        self.path = path


class ParseError(ValueError):
    """The line of a text does not fit the lines before it."""

    def __init__(self, line):
        self.line = line


class UnknownPlace(LookupError):
    """The machine has no such place."""

    def __init__(self, place):
        self.place = place


class UnknownEdge(LookupError):
    """The machine has no edge of this number."""

    def __init__(self, number):
        self.number = number


class UnknownCheckpoint(LookupError):
    """The walker has no checkpoint of this number."""

    def __init__(self, number):
        self.number = number


class UnknownRecord(LookupError):
    """The walker has no record of this number."""

    def __init__(self, number):
        self.number = number


class WrongPlace(RuntimeError):
    """The edge of this number does not begin where it would be taken."""

    def __init__(self, number):
        self.number = number


class LimitExceeded(OverflowError):
    """Something is more than this limit."""

    def __init__(self, limit):
        self.limit = limit
