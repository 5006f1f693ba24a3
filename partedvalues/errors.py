"""The errors of the program: each holds what it is about in `value`."""


class TakeError(ValueError):
    """The base of all errors of the program."""

    def __init__(self, value):
        self.value = value


class InvalidName(TakeError):
    """A text that is no name."""


class InvalidPart(TakeError):
    """A tuple that is no part, or no step."""


class InvalidTerm(TakeError):
    """A tuple that is no term."""


class DoubleField(TakeError):
    """A field that stands twice in one record part."""


class InvalidRule(TakeError):
    """A text that is no order, or no word for what lacks."""


class InvalidAnswer(TakeError):
    """An answer that a look cannot have."""


class UnknownPlace(TakeError):
    """An index or a place at which nothing is."""


class TakeEnded(TakeError):
    """A result that is wanted and not there, or a taking that has ended."""


class NothingToUndo(TakeError):
    """No answer is there that could be taken back."""


class Unreadable(TakeError):
    """A text that no pattern or program has."""
