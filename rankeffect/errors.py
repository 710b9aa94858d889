"""The errors of the package; each one keeps the field that it is constructed from."""


class RankError(ValueError):
    """An argument is not of the required kind or form."""


class InvalidList(RankError):
    """The value is not a list of numbers, or not a list of such lists."""

    def __init__(self, value):
        self.value = value


class InvalidStep(RankError):
    """The value is not a step, or not a list of steps."""

    def __init__(self, value):
        self.value = value


class InvalidTable(RankError):
    """The value, a tuple of start and lost ranks, makes no table."""

    def __init__(self, value):
        self.value = value


class InvalidEffect(RankError):
    """The value, a tuple of breaks and tables, makes no effect."""

    def __init__(self, value):
        self.value = value


class InvalidNumber(RankError):
    """The value is not a number of the required kind."""

    def __init__(self, value):
        self.value = value


class InvalidFacts(RankError):
    """The value is not a list of observed facts."""

    def __init__(self, value):
        self.value = value


class InvalidName(RankError):
    """The value is not the name of a user."""

    def __init__(self, value):
        self.value = value


class InvalidCommand(RankError):
    """The value is not a command of the console."""

    def __init__(self, value):
        self.value = value


class ParseError(RankError):
    """A text is not written as required; the line tells where, or is None."""

    def __init__(self, line):
        self.line = line


class StepFailed(RuntimeError):
    """A list is too short; the index is that of the failing step, or None."""

    def __init__(self, index):
        self.index = index


class LimitExceeded(OverflowError):
    """A result is larger than the limit."""

    def __init__(self, limit):
        self.limit = limit


class NothingToUndo(LookupError):
    """The user has no action that can be undone."""

    def __init__(self, user):
        self.user = user


class NothingToRedo(LookupError):
    """The user has no action that can be redone."""

    def __init__(self, user):
        self.user = user
