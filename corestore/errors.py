"""The errors of this package."""


class CoreError(ValueError):
    """The base of all errors of this package."""


class Clash(CoreError):
    """No store is right."""


class BadSource(CoreError):
    """A value is not a source of the book."""


class BadFact(CoreError):
    """A value cannot be put into the source as a fact."""

    def __init__(self, value):
        self.value = value


class NoFact(CoreError):
    """A value is not a fact of the source."""

    def __init__(self, value):
        self.value = value


class NothingDone(CoreError):
    """There is no put or take to take back."""


class BadText(CoreError):
    """A word of a text cannot stand where it stands; lines and words are counted from 0."""

    def __init__(self, line, word):
        self.line = line
        self.word = word
