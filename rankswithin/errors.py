"""The errors that the program raises."""


class RankError(ValueError):
    """The base class of all errors of the program."""


class BadValue(RankError):
    """An argument has a wrong form."""

    def __init__(self, name):
        super().__init__(f"wrong argument: {name}")
        self.name = name


class TooLarge(RankError):
    """There is more of something than is let."""

    def __init__(self, what):
        super().__init__(f"too many: {what}")
        self.what = what


class NotPossible(RankError):
    """What is asked for is not possible with these arguments."""

    def __init__(self, why):
        super().__init__(f"not possible: {why}")
        self.why = why


class TextError(RankError):
    """A text has a problem at one of its columns."""

    def __init__(self, column, words):
        super().__init__(f"column {column}: {words}")
        self.column = column
        self.words = words
