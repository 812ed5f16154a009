"""All errors that the package raises."""


class TurnError(ValueError):
    """What all errors of the package have in common."""


class BadProgram(TurnError):
    """A value is no program."""


class BadHall(TurnError):
    """A value is no hall."""


class BadScheduler(TurnError):
    """A value is no scheduler for the size, or no family."""


class BadNumber(TurnError):
    """A number is not an integer within its bounds."""


class BadRecord(TurnError):
    """A value is no record, or no list of records or halls."""


class BadText(TurnError):
    """A text does not tell what it should."""


class NotFound(TurnError):
    """What is looked for does not exist, or is too far to look for."""
