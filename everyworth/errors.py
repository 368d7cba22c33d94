"""The errors of the program: each derives directly from WorthError (point 3)."""


class WorthError(ValueError):
    """The base class of all errors of the program."""


class InvalidArgument(WorthError):
    """An argument is out of the range that its function tells."""


class UnknownTable(WorthError):
    """There is no table with this name."""


class UnknownFact(WorthError):
    """There is no fact with this number."""


class DuplicateFact(WorthError):
    """There is a fact with this table and row already."""


class WrongState(WorthError):
    """A fact is given up already, or there already."""


class NoStar(WorthError):
    """No star is told of an element that needs one."""


class TooLarge(WorthError):
    """A result would go beyond a bound of the program."""


class UnknownView(WorthError):
    """There is no view with this name."""


class DuplicateView(WorthError):
    """There is a view with this name already."""


class NothingToUndo(WorthError):
    """There is no change that was not taken back."""


class BadText(WorthError):
    """A text is not the written form of anything."""


class AxiomError(WorthError):
    """Tables are not those of a semiring: `code` tells what fails (point 8)."""

    def __init__(self, code):
        super().__init__(f"the tables fail by {code}")
        self.code = code


class QueryError(WorthError):
    """A query does not pass its check: `code` tells what fails (point 11)."""

    def __init__(self, code):
        super().__init__(f"the query fails by {code}")
        self.code = code
