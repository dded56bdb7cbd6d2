"""The errors that the program raises."""


class PlanError(ValueError):
    """The base class of all errors of the program."""


class BadValue(PlanError):
    """An argument has a wrong form; name is the argument."""

    def __init__(self, name):
        self.name = name


class TooLarge(PlanError):
    """There is more of something than its bound; what tells of what."""

    def __init__(self, what):
        self.what = what


class NotPossible(PlanError):
    """What is asked for is not possible; why is the reason."""

    def __init__(self, why):
        self.why = why


class TextError(PlanError):
    """A text has a problem; column is where, from 1, and words tell which."""

    def __init__(self, column, words):
        self.column = column
        self.words = words
