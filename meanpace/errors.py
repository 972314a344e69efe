"""The refusals of the package, each directly under PaceError."""


class PaceError(ValueError):
    """Any refusal."""


class BadCount(PaceError):
    """A wrong number of meetings, of ways or of times."""


class NoMeeting(PaceError):
    """Something stands for a meeting that is none."""


class BadDelay(PaceError):
    """A way has a delay that is not allowed."""


class Apart(PaceError):
    """A web is not of one piece."""


class NoRing(PaceError):
    """A list of meetings is no ring."""


class BadPace(PaceError):
    """A number or a divisor is none of a pace."""
