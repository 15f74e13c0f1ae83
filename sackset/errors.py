"""What the program refuses, one error for each kind of refusal."""


class SackError(ValueError):
    """Any refusal."""


class NoNumber(SackError):
    """Something is no whole number within its limits, or a sack would be empty."""


class NoStretch(SackError):
    """The last number of a stretch is below its first one, or too far above it."""


class NoRank(SackError):
    """Something is no rank of a number in the set."""


class NoText(SackError):
    """A text writes no set."""
