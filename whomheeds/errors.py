"""The errors of the package, each a direct subclass of one built-in class."""


class NoAsker(LookupError):
    """The MEMBER with this number is firm where an asker is wanted."""

    def __init__(self, number):
        self.number = number


class NoFirm(LookupError):
    """The MEMBER with this number is an asker where a firm one is wanted."""

    def __init__(self, number):
        self.number = number


class NoMember(LookupError):
    """This number is not that of a MEMBER."""

    def __init__(self, number):
        self.number = number


class NoNumber(LookupError):
    """Nothing has this number."""

    def __init__(self, number):
        self.number = number


class NoWord(LookupError):
    """This word means nothing here."""

    def __init__(self, word):
        self.word = word


class NothingDone(LookupError):
    """There is nothing to take back."""


class BadLine(ValueError):
    """The line with this number is not as it must be."""

    def __init__(self, number):
        self.number = number


class BadText(ValueError):
    """The text is not as it must be."""


class Lost(ValueError):
    """The asker with this number reaches no firm MEMBER."""

    def __init__(self, number):
        self.number = number


class Unfit(ValueError):
    """The values do not fit one another."""
