"""The refusals of the program."""


class ReadError(ValueError):
    """Any refusal."""


class NoWord(ReadError):
    """A text that cannot be cut to words."""


class NoTelling(ReadError):
    """What is no telling."""


class Clash(ReadError):
    """A telling that does not go with those told ahead of it."""


class NoPart(ReadError):
    """A row of words that has no tree."""


class NoTree(ReadError):
    """What is no tree of the table."""


class TooMuch(ReadError):
    """A row of too many words."""
