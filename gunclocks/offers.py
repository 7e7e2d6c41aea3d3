"""Offers: which telling more lets the widest stretch be least, and why another one is no better."""

from gunclocks.arcs import all_ends, arcs_of, arcs_without, part_over, ring_along, shared_bottom, turned_round
from gunclocks.errors import NoNumber, NoTellings, TooMany
from gunclocks.parts import are_rising, check_part, difference_of, is_below
from gunclocks.stretches import are_free, check_agree, check_erring, half_paper
from gunclocks.tellings import (
    CLOCKS, are_tellings, check_telling, check_tellings, first_not_kept, is_clock_number, is_ring, is_row,
)

MOST_OFFERS = 6
MOST_OFFERED_TO = 10


def check_watched(thing):
    """Refuse with NoNumber what are no watched clocks."""
    if not are_rising(thing, 1, CLOCKS) or len(thing) == 0:
        raise NoNumber("these are no watched clocks")


def check_offers(thing):
    """Refuse with NoTellings what are no offers."""
    if not are_tellings(thing) or not 1 <= len(thing) <= MOST_OFFERS:
        raise NoTellings("these are no offers")


def check_offered_to(tellings):
    """Refuse with TooMany tellings that are too many to have offers made to them."""
    if len(tellings) > MOST_OFFERED_TO:
        raise TooMany(len(tellings), MOST_OFFERED_TO)


def check_question(tellings, offer, clocks, width):
    """Refuse what is handed in to ask for a reason, but for tellings that don't agree."""
    check_tellings(tellings)
    check_telling(offer)
    check_offered_to(tellings)
    check_watched(clocks)
    if width is not None:
        check_part(width)


def agreed_arcs(tellings, bottom):
    """The arcs of tellings, refused with Apart where these don't agree."""
    arcs = arcs_of(tellings, bottom)
    check_agree(arcs)
    return arcs


def widest(arcs, clocks):
    """The greatest width of these clocks' stretches, None where one lacks an end."""
    ends = all_ends(arcs)
    if any([None in ends[clock] for clock in clocks]):
        return None
    return max([sum(ends[clock]) for clock in clocks])


def worst_of(tellings, clocks):
    """The greatest width of the watched clocks' stretches, None where one has no width."""
    check_tellings(tellings)
    check_watched(clocks)
    bottom = shared_bottom(tellings)
    return part_over(widest(agreed_arcs(tellings, bottom), clocks), bottom)


def binding(tellings, clock):
    """The numbers of the tellings without which alone the clock's stretch would be another one."""
    check_tellings(tellings)
    check_erring(clock)
    arcs = agreed_arcs(tellings, shared_bottom(tellings))
    ends = all_ends(arcs)[clock]
    return tuple([
        number for number in range(len(tellings)) if all_ends(arcs_without(arcs, number))[clock] != ends
    ])


def needless(tellings):
    """The numbers of the tellings without which alone no clock's stretch would be another one."""
    check_tellings(tellings)
    arcs = agreed_arcs(tellings, shared_bottom(tellings))
    ends = all_ends(arcs)
    return tuple([number for number in range(len(tellings)) if all_ends(arcs_without(arcs, number)) == ends])


def width_with(arcs, clocks):
    """The greatest width by these arcs, None where they are no help."""
    if ring_along(arcs) is not None:
        return None
    return widest(arcs, clocks)


def best_offer(tellings, offers, clocks):
    """The number of the offer that helps most, and the greatest width with it; None where none helps."""
    check_tellings(tellings)
    check_offers(offers)
    check_offered_to(tellings)
    check_watched(clocks)
    # One bottom for all offers: so widths are compared as whole numbers.
    bottom = shared_bottom(tellings + offers)
    arcs = agreed_arcs(tellings, bottom)
    best = None
    least = None
    for number, offer in enumerate(offers):
        width = width_with(arcs + arcs_of((offer,), bottom), clocks)
        if width is not None and (least is None or width < least):
            best = number
            least = width
    if best is None:
        return None
    return (best, part_over(least, bottom))


def is_as_wide(least, most, width):
    """Whether most is no less than width above least."""
    return not is_below(difference_of(most, least), width)


def reason_by(arcs, bottom, clock, width):
    """Some reason by this clock alone, of arcs of tellings that agree; None where there is none."""
    up, most = half_paper(arcs, bottom, clock)
    if up is None:
        return ("free", clock, "high", most)
    down, least = half_paper(turned_round(arcs), -bottom, clock)
    if down is None:
        return ("free", clock, "low", least)
    if width is None or not is_as_wide(least[clock], most[clock], width):
        return None
    return ("wide", clock, least, most)


def reason_for(tellings, offer, clocks, width=None):
    """Some reason that the offer is no better than the width, None where there is none."""
    check_question(tellings, offer, clocks, width)
    told = tellings + (offer,)
    bottom = shared_bottom(told)
    check_agree(arcs_of(tellings, bottom))
    arcs = arcs_of(told, bottom)
    ring = ring_along(arcs)
    if ring is not None:
        return ("ring", ring)
    for clock in clocks:
        reason = reason_by(arcs, bottom, clock, width)
        if reason is not None:
            return reason
    return None


def shows_free(told, clock, side, some):
    """Whether by these clocks the clock lacks the end on this side, whether or not the tellings agree."""
    arcs = arcs_of(told, shared_bottom(told))
    if side == "high":
        return are_free(arcs, clock, some)
    return side == "low" and are_free(turned_round(arcs), clock, some)


def shows_wide(told, clock, row, other, width):
    """Whether both are rows that keep the tellings, the other's error of the clock so much greater."""
    if width is None or not is_row(row) or not is_row(other):
        return False
    if first_not_kept(told, row) is not None or first_not_kept(told, other) is not None:
        return False
    return is_as_wide(row[clock], other[clock], width)


def reason_holds(tellings, offer, clocks, width, thing):
    """Whether thing is a reason that the offer is no better than the width."""
    check_question(tellings, offer, clocks, width)
    check_agree(arcs_of(tellings, shared_bottom(tellings)))
    told = tellings + (offer,)
    if not isinstance(thing, tuple) or len(thing) not in (2, 4):
        return False
    if len(thing) == 2:
        return thing[0] == "ring" and is_ring(told, thing[1])
    kind, clock, third, fourth = thing
    if not is_clock_number(clock) or clock not in clocks:
        return False
    if kind == "free":
        return shows_free(told, clock, third, fourth)
    return kind == "wide" and shows_wide(told, clock, third, fourth, width)
