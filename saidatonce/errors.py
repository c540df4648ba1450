"""The errors of the package."""


class HourError(ValueError):
    """What all errors of the package are."""


class InvalidTable(HourError):
    """A value is no table; `at` tells where: -2 its things, -1 its ties, else the tie."""

    def __init__(self, at):
        self.at = at


class InvalidText(HourError):
    """A text tells nothing; `line` and `at` tell the place."""

    def __init__(self, line, at):
        self.line = line
        self.at = at


class InvalidTimes(HourError):
    """A value is no times; `at` tells the item, -1 the whole."""

    def __init__(self, at):
        self.at = at


class InvalidDay(HourError):
    """A value is no day; `at` tells the batch, -1 the whole."""

    def __init__(self, at):
        self.at = at


class InvalidPaper(HourError):
    """A value is no paper; `at` tells where."""

    def __init__(self, at):
        self.at = at


class InvalidNumber(HourError):
    """An argument is no such number; `word` tells which argument."""

    def __init__(self, word):
        self.word = word


class Refused(HourError):
    """What was asked for can't be done; `word` tells why."""

    def __init__(self, word):
        self.word = word


class Broken(HourError):
    """What lies on a disk is not what it should be; `word` tells what."""

    def __init__(self, word):
        self.word = word
