"""The exceptions of the package."""


class FieldError(ValueError):
    """Any failure that the package reports."""


class BadWay(FieldError):
    """A way or a family is not valid."""


class BadWords(FieldError):
    """A list of words, or a text that is wanted, is not valid."""


class BadKeys(FieldError):
    """A key or a row is not valid."""


class BadViews(FieldError):
    """A view row, a state, a record or a list of records is not valid."""


class BadNumber(FieldError):
    """A sight or another number is not valid."""


class BadText(FieldError):
    """A text to be parsed is not one that a format function returns."""


class NotFound(FieldError):
    """What was asked for does not exist."""
