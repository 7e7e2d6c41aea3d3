"""Refusals: each kind of failure is a class of its own, straight under ClockError."""


class ClockError(ValueError):
    """Any refusal."""


class NoPart(ClockError):
    """What is handed in for a part is none."""


class NoNumber(ClockError):
    """What is handed in for a whole number, or for a clock's number, is none."""


class NoMoment(ClockError):
    """What is handed in for a moment is none."""


class NoClock(ClockError):
    """What is handed in for a clock, or for the gains of clocks, is none."""


class NoHour(ClockError):
    """What is handed in for an hour is none."""


class NoTelling(ClockError):
    """What is handed in for a telling is none."""


class NoTellings(ClockError):
    """What is handed in for tellings is none."""


class NoRow(ClockError):
    """What is handed in for a row of errors is none."""


class Apart(ClockError):
    """The tellings can't all be."""


class Twice(ClockError):
    """A clock was set at that moment already."""


class Missing(ClockError):
    """No telling of that number stands."""


class NoDeed(ClockError):
    """There is nothing to undo, or it is not the time for this deed."""


class NoAir(ClockError):
    """What is handed in for air is none."""


class NoSignal(ClockError):
    """What is handed in for a signal is none."""


class NoQuarrel(ClockError):
    """What is handed in for the rings of a quarrel is no such list."""


class NoCarriage(ClockError):
    """What is handed in for a carriage, or for carriages, is none."""


class NoLine(ClockError):
    """What is handed in for a line is none that the desk knows."""


class TooMany(ClockError):
    """There are many of them, where most are the most that there may be."""

    def __init__(self, many, most):
        self.many = many
        self.most = most


class NoText(ClockError):
    """What is handed in for a text is none that can be read; at tells where."""

    def __init__(self, at):
        self.at = at
