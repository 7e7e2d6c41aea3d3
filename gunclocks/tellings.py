"""Tellings: how far the errors of two clocks lie apart, and the ways that lead along them."""

from gunclocks.errors import NoNumber, NoRow, NoTelling, NoTellings
from gunclocks.parts import NOUGHT, difference_of, is_below, is_part, is_whole, opposite, sum_of

CLOCKS = 6
MOST_TELLINGS = 16
MOST_STEPS = 60


def is_clock_number(thing):
    """Whether thing is the number of a clock."""
    return is_whole(thing) and 0 <= thing < CLOCKS


def are_bounds(low, high):
    """Whether these may bound a telling: parts or None, not both None, low no greater than high."""
    if low is None:
        return is_part(high)
    if high is None:
        return is_part(low)
    return is_part(low) and is_part(high) and not is_below(high, low)


def is_telling(thing):
    """Whether thing is a telling."""
    if not isinstance(thing, tuple) or len(thing) != 4:
        return False
    one, other, low, high = thing
    if not is_clock_number(one) or not is_clock_number(other):
        return False
    return one != other and are_bounds(low, high)


def are_tellings(thing):
    """Whether thing is a tuple of no more tellings than may be."""
    if not isinstance(thing, tuple) or len(thing) > MOST_TELLINGS:
        return False
    for telling in thing:
        if not is_telling(telling):
            return False
    return True


def is_row(thing):
    """Whether thing is a row: the errors of all clocks, that of the clock 0 being 0."""
    if not isinstance(thing, tuple) or len(thing) != CLOCKS:
        return False
    return all([is_part(error) for error in thing]) and thing[0] == NOUGHT


def check_number(thing):
    """Refuse with NoNumber what is no clock's number."""
    if not is_clock_number(thing):
        raise NoNumber("this is no clock's number")


def check_telling(thing):
    """Refuse with NoTelling what is no telling."""
    if not is_telling(thing):
        raise NoTelling("this is no telling")


def check_tellings(thing):
    """Refuse with NoTellings what is no tellings."""
    if not are_tellings(thing):
        raise NoTellings("these are no tellings")


def check_row(thing):
    """Refuse with NoRow what is no row."""
    if not is_row(thing):
        raise NoRow("this is no row of errors")


def is_between(worth, low, high):
    """Whether the worth lies from low to high, each None where it is no bound; all looked at already."""
    if low is not None and is_below(worth, low):
        return False
    return high is None or not is_below(high, worth)


def is_kept(telling, row):
    """Whether the row keeps the telling, both looked at already."""
    one, other, low, high = telling
    return is_between(difference_of(row[other], row[one]), low, high)


def first_not_kept(tellings, row):
    """The same as first_broken, of tellings and a row that were looked at already."""
    for number, telling in enumerate(tellings):
        if not is_kept(telling, row):
            return number
    return None


def first_broken(tellings, row):
    """The number of the first telling that the row doesn't keep, None where it keeps all."""
    check_tellings(tellings)
    check_row(row)
    return first_not_kept(tellings, row)


def is_step(tellings, thing):
    """Whether thing is a tuple (number, sign), the number that of a telling, the sign 1 or -1."""
    if not isinstance(thing, tuple) or len(thing) != 2:
        return False
    number, sign = thing
    if not is_whole(number) or not is_whole(sign):
        return False
    return 0 <= number < len(tellings) and sign in (1, -1)


def step_along(telling, sign):
    """The tuple (begin, end, length) of a step; length is None where the bound is None."""
    one, other, low, high = telling
    if sign == 1:
        return (one, other, high)
    if low is None:
        return (other, one, None)
    return (other, one, opposite(low))


def way_along(tellings, clock, thing):
    """The same as way_of, of tellings and a clock that were looked at already."""
    if not isinstance(thing, tuple) or len(thing) > MOST_STEPS:
        return None
    reached = clock
    length = NOUGHT
    for step in thing:
        if not is_step(tellings, step):
            return None
        begin, end, far = step_along(tellings[step[0]], step[1])
        if begin != reached or far is None:
            return None
        reached = end
        length = sum_of(length, far)
    return (reached, length)


def way_of(tellings, clock, thing):
    """The tuple (end, length) where thing is a way from the clock, None where it is none."""
    check_tellings(tellings)
    check_number(clock)
    return way_along(tellings, clock, thing)


def is_ring(tellings, thing):
    """Whether thing is a ring: a clock and a way from it back to it whose length is below 0."""
    check_tellings(tellings)
    if not isinstance(thing, tuple) or len(thing) != 2 or not is_clock_number(thing[0]):
        return False
    clock, way = thing
    told = way_along(tellings, clock, way)
    # A way without a step is 0 long, so it is never a ring.
    return told is not None and told[0] == clock and told[1][0] < 0
