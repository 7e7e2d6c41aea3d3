"""Arcs: the steps along tellings, their lengths whole numbers over one bottom that all bounds share.

All tellings here were looked at already. An arc is a tuple (begin, end, length, step): two clocks,
how long the step is, and the step as a way has it, (number, sign).
"""

from math import lcm

from gunclocks.parts import lowest
from gunclocks.tellings import CLOCKS


def shared_bottom(tellings):
    """The least whole number that the bottom of each bound divides."""
    bottom = 1
    for _, _, low, high in tellings:
        if low is not None:
            bottom = lcm(bottom, low[1])
        if high is not None:
            bottom = lcm(bottom, high[1])
    return bottom


def arcs_of(tellings, bottom):
    """An arc for each step that there is."""
    arcs = []
    for number, (one, other, low, high) in enumerate(tellings):
        if high is not None:
            arcs.append((one, other, high[0] * (bottom // high[1]), (number, 1)))
        if low is not None:
            arcs.append((other, one, -low[0] * (bottom // low[1]), (number, -1)))
    return arcs


def turned_round(arcs):
    """The same arcs, each from its end to its begin."""
    return [(end, begin, length, step) for begin, end, length, step in arcs]


def arcs_without(arcs, number):
    """The arcs but for those of the telling of this number."""
    return [arc for arc in arcs if arc[3][0] != number]


def part_over(length, bottom):
    """The part that a length stands for, None where there is none."""
    if length is None:
        return None
    return lowest(length, bottom)


def settle(arcs, lengths, last):
    """Shorten, in place, how long the way to each clock is, till no arc makes one shorter.

    A length is None where no way is known yet. Of the arc by which each clock was reached last keeps
    the tuple (begin, step). Tells None, or, where this has no end, a clock that a ring led to.
    """
    # A way that comes to no clock twice has fewer steps than there are clocks.
    for _ in range(CLOCKS):
        shortened = None
        for begin, end, length, step in arcs:
            if lengths[begin] is None:
                continue
            reached = lengths[begin] + length
            if lengths[end] is None or reached < lengths[end]:
                lengths[end] = reached
                last[end] = (begin, step)
                shortened = end
        if shortened is None:
            return None
    return shortened


def steps_back(last, clock, begin):
    """The steps by which the clock was reached from begin, at least one of them, the last one first."""
    begun, step = last[clock]
    steps = [step]
    while begun != begin:
        begun, step = last[begun]
        steps.append(step)
    return steps


def ring_along(arcs):
    """Some ring, None where there is none."""
    last = [None] * CLOCKS
    clock = settle(arcs, [0] * CLOCKS, last)
    if clock is None:
        return None
    # So many steps back stands a clock that is surely on the ring, and not only led to by it.
    for _ in range(CLOCKS):
        clock = last[clock][0]
    return (clock, tuple(steps_back(last, clock, clock)[::-1]))


def lengths_from(arcs, clock):
    """How long the shortest way from the clock to each one is, None where there is none."""
    lengths = [None] * CLOCKS
    lengths[clock] = 0
    settle(arcs, lengths, [None] * CLOCKS)
    return lengths


def all_ends(arcs):
    """For each clock (down, up): how long the shortest ways from it to the clock 0, and back to it, are."""
    return list(zip(lengths_from(turned_round(arcs), 0), lengths_from(arcs, 0)))


def plain_rings(tellings):
    """The list of all rings that come to no clock twice, each told from its least clock on."""
    leaving = [[] for _ in range(CLOCKS)]
    for arc in arcs_of(tellings, shared_bottom(tellings)):
        leaving[arc[0]].append(arc)
    rings = []
    ways = [(0, (clock,), ()) for clock in range(CLOCKS)]
    while ways:
        longer = []
        for so_far, passed, steps in ways:
            for _, end, length, step in leaving[passed[-1]]:
                if end == passed[0] and so_far + length < 0:
                    rings.append((end, steps + (step,)))
                if end > passed[0] and end not in passed:
                    longer.append((so_far + length, passed + (end,), steps + (step,)))
        ways = longer
    return rings
