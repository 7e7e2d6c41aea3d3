"""Clocks: what they show, and which hours they tell twice or not at all."""

from gunclocks.errors import NoClock, NoHour, NoMoment
from gunclocks.parts import (
    NOUGHT, added, check_part, divided, is_below, is_less, is_part, less, product_of, sum_of, times,
)

DAY_HOURS = (24, 1)
MOST_GAIN = 12
MOST_SETS = 6


def is_moment(thing):
    """Whether thing is a moment: a part from 0 on."""
    return is_part(thing) and thing[0] >= 0


def is_gain(thing):
    """Whether thing is a part that a clock may gain by the day."""
    return is_part(thing) and abs(thing[0]) <= MOST_GAIN * thing[1]


def is_one_set(thing):
    """Whether thing is a tuple (moment, jump), the jump not 0."""
    if not isinstance(thing, tuple) or len(thing) != 2:
        return False
    moment, jump = thing
    return is_moment(moment) and is_part(jump) and jump[0] != 0


def are_sets(thing):
    """Whether thing is a tuple of no more sets than may be, their moments rising."""
    if not isinstance(thing, tuple) or len(thing) > MOST_SETS:
        return False
    if not all([is_one_set(entry) for entry in thing]):
        return False
    return all([is_less(ahead[0], behind[0]) for ahead, behind in zip(thing, thing[1:])])


def is_clock(thing):
    """Whether thing is a clock."""
    if not isinstance(thing, tuple) or len(thing) != 2:
        return False
    gain, sets = thing
    return is_gain(gain) and are_sets(sets)


def check_clock(thing):
    """Refuse with NoClock what is no clock."""
    if not is_clock(thing):
        raise NoClock("this is no clock")


def check_moment(thing):
    """Refuse with NoMoment what is no moment."""
    if not is_moment(thing):
        raise NoMoment("this is no moment")


def check_hour(thing):
    """Refuse with NoHour what is no hour."""
    if not is_part(thing):
        raise NoHour("this is no hour")


def error_told(error):
    """The error that is handed in, nought where it is None."""
    if error is None:
        return NOUGHT
    check_part(error)
    return error


def grown_by(clock, moment):
    """By how much the clock's error has become greater by the moment, both looked at already."""
    gain, sets = clock
    grown = product_of(moment, gain)
    for set_at, jump in sets:
        if not is_below(moment, set_at):
            grown = sum_of(grown, jump)
    return grown


def drift(clock, moment):
    """By how much the clock's error has become greater by the moment."""
    check_clock(clock)
    check_moment(moment)
    return grown_by(clock, moment)


def shown_at(clock, moment, error=None):
    """The hour that the clock shows at the moment."""
    check_clock(clock)
    check_moment(moment)
    begun = error_told(error)
    return added(times(DAY_HOURS, moment), added(begun, drift(clock, moment)))


def spans_between(sets):
    """The spans of time between sets, as (begin, end, jumped): end is None of the last one."""
    spans = []
    begin = NOUGHT
    jumped = NOUGHT
    for moment, jump in sets:
        spans.append((begin, moment, jumped))
        begin = moment
        jumped = added(jumped, jump)
    spans.append((begin, None, jumped))
    return spans


def is_within(moment, begin, end):
    """Whether the moment lies from begin on and, where there is an end, ahead of it."""
    if is_less(moment, begin):
        return False
    return end is None or is_less(moment, end)


def moments_of(clock, hour, error=None):
    """All moments, rising, at which the clock shows just this hour."""
    check_clock(clock)
    check_hour(hour)
    begun = error_told(error)
    gain, sets = clock
    # No clock loses more than 12 hours by the day, so between sets each one shows ever later hours.
    by_day = added(DAY_HOURS, gain)
    found = []
    for begin, end, jumped in spans_between(sets):
        moment = divided(less(hour, added(begun, jumped)), by_day)
        if is_within(moment, begin, end):
            found.append(moment)
    return found


def leaps_of(clock, error, are_ahead):
    """The tuple (before, shown) of each set that puts the clock ahead, or of each that turns it back.

    Before is the hour that the clock would have shown at that moment without this set.
    """
    begun = error_told(error)
    # The clock was looked at as a whole: so none of its parts need be looked at once more.
    gain, sets = clock
    by_day = sum_of(DAY_HOURS, gain)
    leaps = []
    for moment, jump in sets:
        if (jump[0] > 0) == are_ahead:
            before = sum_of(product_of(by_day, moment), begun)
            leaps.append((before, sum_of(before, jump)))
        begun = sum_of(begun, jump)
    return leaps


def turned_back(clock, error=None):
    """For each set that turns the clock back, (low, high): what it shows, and would have shown."""
    check_clock(clock)
    return [(shown, before) for before, shown in leaps_of(clock, error, False)]


def skipped(clock, error=None):
    """For each set that puts the clock ahead, (low, high): what it would have shown, and shows."""
    check_clock(clock)
    return leaps_of(clock, error, True)
