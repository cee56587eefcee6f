"""All errors that the package raises."""


class FolkError(ValueError):
    """The base of all errors of the package."""


class NoYard(FolkError):
    """The argument is not a yard."""


class NoStanding(FolkError):
    """The argument is not a standing of the yard."""


class NoLeap(FolkError):
    """The argument is not a leap of the yard."""


class NoRow(FolkError):
    """The argument is not a row, or not leaps of so many persons."""


class NoVector(FolkError):
    """The argument is not a vector, or not a list of the asked vectors."""


class NoReading(FolkError):
    """The argument is not a reading of the yard's ways."""


class NoWishes(FolkError):
    """The argument is not wishes of the yard."""


class NoCell(FolkError):
    """The arguments are not a cell of the standing."""


class NoTable(FolkError):
    """No row has this table."""


class NoNumber(FolkError):
    """The argument is not one of the numbers that are asked for."""


class NoPerson(FolkError):
    """The attribute person holds what is not a person."""

    def __init__(self, person):
        # The text leaves the value out: it may be anything, even an integer too long to be written out.
        super().__init__("this is not a person that is asked for")
        self.person = person


class TooMany(FolkError):
    """The answer is above the bound that the attribute most holds."""

    def __init__(self, most):
        super().__init__("the answer is above the bound")
        self.most = most
