"""The errors of the package, all of them under AheadError."""


class AheadError(ValueError):
    """The base of all errors of the package."""


class BadProblem(AheadError):
    """A value is no problem."""


class BadSetup(AheadError):
    """A value is no setup."""


class BadDelays(AheadError):
    """A value is no tuple of delays."""


class NoSuchEvent(AheadError):
    """A tuple is no event of the run."""


class NotPossible(AheadError):
    """An event cannot take place now."""


class CheckpointUnderWay(AheadError):
    """A checkpoint cannot be begun while another one is under way."""


class TooLate(AheadError):
    """A checkpoint cannot be begun, as its batch lies too far back."""
