"""Ships: clocks carried from town to town, and what their comings tell of the towns' clocks."""

from gunclocks.arcs import arcs_of, arcs_without, ring_along, shared_bottom
from gunclocks.errors import NoCarriage, NoDeed, NoNumber, NoPart, TooMany
from gunclocks.parts import (
    NOUGHT, check_part, difference_of, divided, is_below, is_from_nought, is_part, product_of, sum_of,
)
from gunclocks.stretches import stretch_of
from gunclocks.tellings import check_number, is_between, is_clock_number

MOST_CARRIAGES = 10


def is_carriage(thing):
    """Whether thing is a carriage."""
    if not isinstance(thing, tuple) or len(thing) != 7:
        return False
    one, other, left, came, days, least, most = thing
    if not is_clock_number(one) or not is_clock_number(other) or one == other:
        return False
    if not is_part(left) or not is_part(came) or not is_from_nought(days):
        return False
    return is_part(least) and is_part(most) and not is_below(most, least)


def are_carriages(thing):
    """Whether thing is a tuple of no more carriages than may be."""
    if not isinstance(thing, tuple) or len(thing) > MOST_CARRIAGES:
        return False
    return all([is_carriage(carriage) for carriage in thing])


def check_carriage(thing):
    """Refuse with NoCarriage what is no carriage."""
    if not is_carriage(thing):
        raise NoCarriage("this is no carriage")


def check_carriages(thing):
    """Refuse with NoCarriage what are no carriages."""
    if not are_carriages(thing):
        raise NoCarriage("these are no carriages")


def apart_by(carriage, gain):
    """The other's error less the one's, where the ship's clock gained so much in a day."""
    _, _, left, came, days, _, _ = carriage
    return sum_of(difference_of(left, came), product_of(gain, days))


def telling_made(carriage):
    """The telling that a carriage makes that was looked at already."""
    one, other, _, _, _, least, most = carriage
    return (one, other, apart_by(carriage, least), apart_by(carriage, most))


def carriage_telling(carriage):
    """The telling that the carriage makes."""
    check_carriage(carriage)
    return telling_made(carriage)


def ship_tellings(carriages):
    """The tuple of the tellings that the carriages make."""
    check_carriages(carriages)
    return tuple([telling_made(carriage) for carriage in carriages])


class Ship:
    """A ship's clock, between which bounds it gains in a day, and where it was carried."""

    def __init__(self, least, most=None):
        check_part(least)
        if most is None:
            most = least
        check_part(most)
        if is_below(most, least):
            raise NoCarriage("no clock gains no less than that and no more than this")
        self.least = least
        self.most = most
        self.carriages = []
        # Where it left, and by how much its clock was ahead there: None where it isn't under way.
        self.under_way = None

    def leaves(self, clock, ahead):
        """The ship leaves there, its clock by so much ahead."""
        check_number(clock)
        check_part(ahead)
        if self.under_way is not None:
            raise NoDeed("the ship is under way")
        self.under_way = (clock, ahead)

    def comes(self, clock, ahead, days):
        """The ship comes there behind so many days, its clock by so much ahead; the telling is told."""
        if self.under_way is None:
            raise NoDeed("the ship isn't under way")
        town, left = self.under_way
        check_number(clock)
        if clock == town:
            raise NoNumber("the ship left there")
        check_part(ahead)
        if not is_from_nought(days):
            raise NoPart("these are no days")
        many = len(self.carriages) + 1
        if many > MOST_CARRIAGES:
            raise TooMany(many, MOST_CARRIAGES)
        carriage = (town, clock, left, ahead, days, self.least, self.most)
        self.carriages.append(carriage)
        self.under_way = None
        return telling_made(carriage)

    def sailed(self):
        """The tuple of the ship's carriages."""
        return tuple(self.carriages)

    def __eq__(self, other):
        if not isinstance(other, Ship):
            return False
        if self.least != other.least or self.most != other.most:
            return False
        return self.carriages == other.carriages and self.under_way == other.under_way

    def __len__(self):
        return len(self.carriages)

    def __repr__(self):
        return f"Ship({len(self.carriages)})"


def gain_by_both(there, home):
    """By how much the ship gained in a day so that both carriages tell one and the same, None where by nothing."""
    days = sum_of(there[4], home[4])
    # Told without any gain, so much is lacking from there and back again.
    lacking = difference_of(NOUGHT, sum_of(apart_by(there, NOUGHT), apart_by(home, NOUGHT)))
    if days != NOUGHT:
        return divided(lacking, days)
    if lacking != NOUGHT:
        return None
    if is_below(there[5], home[5]):
        return home[5]
    return there[5]


def round_gain(there, home):
    """The tuple (gain, apart) by which both carriages tell one and the same, None where they can't."""
    check_carriage(there)
    check_carriage(home)
    if (there[0], there[1]) != (home[1], home[0]):
        raise NoCarriage("the second one is not back from where the first one goes")
    gain = gain_by_both(there, home)
    if gain is None or not is_between(gain, there[5], there[6]) or not is_between(gain, home[5], home[6]):
        return None
    return (gain, apart_by(there, gain))


def doubted(carriages):
    """The numbers of the carriages without which, each alone, the others agree, while all of them don't."""
    tellings = ship_tellings(carriages)
    arcs = arcs_of(tellings, shared_bottom(tellings))
    if ring_along(arcs) is None:
        return ()
    return tuple([
        number for number in range(len(tellings)) if ring_along(arcs_without(arcs, number)) is None
    ])


def towns_apart(carriages, one, other):
    """The least and the greatest that the other's error is above the one's, None where unbounded."""
    return stretch_of(ship_tellings(carriages), other, one)
