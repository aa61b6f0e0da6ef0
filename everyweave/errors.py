"""The errors of the program."""


class EveryweaveError(ValueError):
    """What every error of this program is."""


class BadProgram(EveryweaveError):
    """What was passed is no program."""


class BadSchedule(EveryweaveError):
    """An agent of a schedule cannot make its step."""


class BadArgument(EveryweaveError):
    """An argument has a value that the function does not take."""


class BadText(EveryweaveError):
    """A text is not the textual form of a program."""


class BadGraph(EveryweaveError):
    """The empty graph does not grow to a graph."""


class TooLarge(EveryweaveError):
    """There is more to try than the limit allows."""


class BadLine(EveryweaveError):
    """The desk does not take a line."""
