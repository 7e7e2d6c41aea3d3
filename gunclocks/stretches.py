"""Stretches: between which errors each clock must lie by all tellings, no wider and no narrower."""

from gunclocks.arcs import (
    all_ends, arcs_of, lengths_from, part_over, ring_along, settle, shared_bottom, steps_back, turned_round,
)
from gunclocks.errors import Apart, NoNumber
from gunclocks.parts import are_rising, lowest, opposite
from gunclocks.tellings import (
    CLOCKS, check_number, check_tellings, first_not_kept, is_clock_number, is_row, way_along,
)


def ring_of(tellings):
    """Some ring of the tellings, None where some row keeps them all."""
    check_tellings(tellings)
    return ring_along(arcs_of(tellings, shared_bottom(tellings)))


def agree(tellings):
    """Whether some row keeps all tellings."""
    return ring_of(tellings) is None


def check_agree(arcs):
    """Refuse with Apart arcs of tellings that no row keeps."""
    if ring_along(arcs) is not None:
        raise Apart("these tellings can't all be")


def check_erring(thing):
    """Refuse with NoNumber what is no number of a clock that may err: the clock 0 is right."""
    if not is_clock_number(thing) or thing == 0:
        raise NoNumber("this is no number of a clock from 1 on")


def stretch_along(arcs, bottom, clock, other):
    """The stretch of the clock's error less the other one's, of arcs of tellings that agree."""
    to_other = lengths_from(arcs, clock)[other]
    to_clock = lengths_from(arcs, other)[clock]
    return (part_over(to_other, -bottom), part_over(to_clock, bottom))


def all_stretches(arcs, bottom):
    """For each clock its stretch, of arcs of tellings that agree."""
    return [(part_over(down, -bottom), part_over(up, bottom)) for down, up in all_ends(arcs)]


def stretch_of(tellings, clock, other=0):
    """The least and the greatest that the clock's error less the other one's is, None where unbounded."""
    check_tellings(tellings)
    check_number(clock)
    check_number(other)
    bottom = shared_bottom(tellings)
    arcs = arcs_of(tellings, bottom)
    check_agree(arcs)
    return stretch_along(arcs, bottom, clock, other)


def reach_all(arcs, lengths, last):
    """Give a length to each clock that no way from the clock 0 leads to, so that all of them settle."""
    # No two ways without a ring differ by more than this: so no way that the clock 0 leads to is shortened.
    far_off = sum([abs(length) for _, _, length, _ in arcs])
    for clock in range(CLOCKS):
        if lengths[clock] is None:
            lengths[clock] = far_off
    settle(arcs, lengths, last)


def half_paper(arcs, bottom, clock):
    """How far the arcs let the clock's error go, and what shows that they do.

    Tells the tuple (steps, row): the steps back of a shortest way from the clock 0, and a row with an
    error as great; where there is no such way (None, clocks): clocks that no arc leads to.
    """
    lengths = [None] * CLOCKS
    lengths[0] = 0
    last = [None] * CLOCKS
    settle(arcs, lengths, last)
    if lengths[clock] is None:
        return (None, tuple([number for number in range(CLOCKS) if lengths[number] is None]))
    steps = steps_back(last, clock, 0)
    reach_all(arcs, lengths, last)
    return (steps, tuple([lowest(length, bottom) for length in lengths]))


def stretch_paper(tellings, clock):
    """Some paper (down, up, least, most) that shows the clock's stretch."""
    check_tellings(tellings)
    check_erring(clock)
    bottom = shared_bottom(tellings)
    arcs = arcs_of(tellings, bottom)
    check_agree(arcs)
    up, most = half_paper(arcs, bottom, clock)
    # Turned round the arcs lead from the clock to 0, and bound errors taken below 0.
    down, least = half_paper(turned_round(arcs), -bottom, clock)
    if up is not None:
        up = tuple(up[::-1])
    if down is not None:
        down = tuple(down)
    return (down, up, least, most)


def are_free(arcs, clock, thing):
    """Whether thing is a rising tuple of clocks, this one among them and 0 not, that no arc leads to."""
    if not are_rising(thing, 1, CLOCKS) or clock not in thing:
        return False
    return all([begin in thing or end not in thing for begin, end, _, _ in arcs])


def is_row_with(tellings, clock, error, thing):
    """Whether thing is a row that keeps all tellings and has this error of the clock."""
    return is_row(thing) and thing[clock] == error and first_not_kept(tellings, thing) is None


def paper_holds(tellings, clock, thing):
    """Whether thing is a paper of the clock."""
    check_tellings(tellings)
    check_erring(clock)
    bottom = shared_bottom(tellings)
    arcs = arcs_of(tellings, bottom)
    check_agree(arcs)
    if not isinstance(thing, tuple) or len(thing) != 4:
        return False
    down, up, least, most = thing
    low, high = stretch_along(arcs, bottom, clock, 0)
    # The tellings were looked at already, so none of these looks at them once more.
    if high is None:
        upper = up is None and are_free(arcs, clock, most)
    else:
        upper = way_along(tellings, 0, up) == (clock, high) and is_row_with(tellings, clock, high, most)
    if not upper:
        return False
    if low is None:
        return down is None and are_free(turned_round(arcs), clock, least)
    return way_along(tellings, clock, down) == (0, opposite(low)) and is_row_with(tellings, clock, low, least)
