"""The refusals of the program."""


class RedraftError(ValueError):
    """Any refusal."""


class NoWord(RedraftError):
    """Something is no word, or no list of words."""


class TooLong(RedraftError):
    """A text has too many words."""


class NoRow(RedraftError):
    """Something is no row, or no list of rows."""


class NoFit(RedraftError):
    """A telling can't be done on an old text."""
