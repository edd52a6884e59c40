"""The refusals, one class for each kind."""


class FoldError(ValueError):
    """Any refusal of this program."""


class Unset(FoldError):
    """A name has no number; the field `word` tells the name."""

    def __init__(self, word):
        FoldError.__init__(self, f"no number is set for {word}")
        self.word = word


class ByNought(FoldError):
    """Something is to be divided by 0."""


class TooGreat(FoldError):
    """A result lies beyond the limit of numbers."""


class BadText(FoldError):
    """A text writes no expression."""
