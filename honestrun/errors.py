"""The errors of the package."""


class HonestrunError(ValueError):
    """The base class of all errors of the package."""


class TooManyPossibilities(HonestrunError):
    """There would be more than 60 pairs of names."""


class NotInBook(HonestrunError):
    """A text has no pair in a book."""


class NotSaved(HonestrunError):
    """A list is not what was saved."""
