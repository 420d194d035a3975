"""The refusals. Each is taken as HourError, and as ValueError too."""


class HourError(ValueError):
    """Any refusal."""


class NoDate(HourError):
    """There is no such month, or no such day in it."""


class NoRule(HourError):
    """This is no rule, writes none, or is one rule too many."""


class NoName(HourError):
    """This can't be anybody's name."""


class Taken(HourError):
    """Somebody has the name."""


class Stranger(HourError):
    """Nobody has the name."""


class Twice(HourError):
    """A name stands twice."""


class NoTime(HourError):
    """This is no number of hours, or no stretch."""


class NoMeeting(HourError):
    """No such meeting stands."""


class Clash(HourError):
    """A busy rule would cover an hour of a meeting."""


class TooLong(HourError):
    """The walk would be too long."""
