"""A post: tellings and sets of clocks that gain by the day, told in any order, and undone again."""

from gunclocks.arcs import arcs_of, shared_bottom
from gunclocks.clocks import DAY_HOURS, MOST_SETS, check_hour, check_moment, grown_by, is_gain
from gunclocks.errors import Missing, NoClock, NoDeed, NoNumber, NoPart, NoTelling, TooMany, Twice
from gunclocks.parts import NOUGHT, difference_of, is_below, is_part, is_whole, product_of, sum_of
from gunclocks.stretches import all_stretches, check_agree, check_erring
from gunclocks.tellings import CLOCKS, are_bounds, check_number, is_between

MOST_STANDING = 10
NOT_SO = "no"


def check_gains(thing):
    """Refuse with NoClock what is no tuple of the gains of all clocks, that of the clock 0 being 0."""
    if not isinstance(thing, tuple) or len(thing) != CLOCKS:
        raise NoClock("these are no gains of all clocks")
    if not all([is_gain(gain) for gain in thing]) or thing[0] != NOUGHT:
        raise NoClock("no clocks gain so")


def check_other(thing, one):
    """Refuse with NoNumber what is no clock's number, or is that of the first clock."""
    check_number(thing)
    if thing == one:
        raise NoNumber("no telling is of one clock alone")


def check_bounds(low, high):
    """Refuse with NoTelling what doesn't bound a telling."""
    if not are_bounds(low, high):
        raise NoTelling("these are no bounds of a telling")


def check_jump(thing):
    """Refuse with NoPart what no clock is set by."""
    if not is_part(thing) or thing[0] == 0:
        raise NoPart("no clock is set by this")


def moved(ends, by):
    """Both ends, each greater by so much, None where there is none."""
    return tuple([None if end is None else sum_of(end, by) for end in ends])


def at_beginning(clocks, moment, telling):
    """The telling of errors at the moment as it stands for the errors at the beginning."""
    one, other, low, high = telling
    # The error of other has grown by so much less than that of one.
    by = difference_of(grown_by(clocks[one], moment), grown_by(clocks[other], moment))
    return (one, other) + moved((low, high), by)


def with_set(sets, moment, jump):
    """The sets and one more, rising by what their moments stand for."""
    ahead = tuple([entry for entry in sets if is_below(entry[0], moment)])
    return ahead + ((moment, jump),) + sets[len(ahead):]


class Stand:
    """What stands on a post behind a deed. It is never changed: so back comes to it as it was.

    Clocks are all clocks with their sets; told the tellings that stand, each a tuple (number, moment,
    telling) as it was told; tellings the same as they stand for the errors at the beginning, refused with
    Apart where they don't agree; many how many were told, those called false too.
    """

    def __init__(self, clocks, told, tellings, many):
        bottom = shared_bottom(tellings)
        arcs = arcs_of(tellings, bottom)
        check_agree(arcs)
        self.clocks = clocks
        self.told = told
        self.tellings = tellings
        self.many = many
        self.stretches = all_stretches(arcs, bottom)

    def stretch_then(self, clock, moment):
        """Between which ends the clock's error lies at the moment."""
        return moved(self.stretches[clock], grown_by(self.clocks[clock], moment))


class Post:
    """Clocks of these gains, with the tellings and the sets that were told of them."""

    def __init__(self, gains):
        check_gains(gains)
        # One behind each deed that stands, the first one ahead of all deeds.
        self.stands = [Stand(tuple([(gain, ()) for gain in gains]), (), (), 0)]

    def tells(self, moment, one, other, low=None, high=None):
        """At the moment the error of other less that of one lay from low to high; its number is told."""
        check_moment(moment)
        check_number(one)
        check_other(other, one)
        check_bounds(low, high)
        now = self.stands[-1]
        many = len(now.told) + 1
        if many > MOST_STANDING:
            raise TooMany(many, MOST_STANDING)
        telling = (one, other, low, high)
        told = now.told + ((now.many, moment, telling),)
        tellings = now.tellings + (at_beginning(now.clocks, moment, telling),)
        self.stands.append(Stand(now.clocks, told, tellings, now.many + 1))
        return now.many

    def sets(self, clock, moment, jump):
        """The clock was set at the moment, from then on it shows jump more."""
        check_erring(clock)
        check_moment(moment)
        check_jump(jump)
        now = self.stands[-1]
        gain, earlier = now.clocks[clock]
        if moment in [set_at for set_at, _ in earlier]:
            raise Twice("the clock was set at that moment already")
        many = len(earlier) + 1
        if many > MOST_SETS:
            raise TooMany(many, MOST_SETS)
        clocks = now.clocks[:clock] + ((gain, with_set(earlier, moment, jump)),) + now.clocks[clock + 1:]
        tellings = tuple([at_beginning(clocks, told_at, telling) for _, told_at, telling in now.told])
        self.stands.append(Stand(clocks, now.told, tellings, now.many))

    def calls_false(self, number):
        """The telling of this number stands no more."""
        now = self.stands[-1]
        numbers = [entry[0] for entry in now.told]
        if not is_whole(number) or number not in numbers:
            raise Missing("no telling of this number stands")
        at = numbers.index(number)
        told = now.told[:at] + now.told[at + 1:]
        tellings = now.tellings[:at] + now.tellings[at + 1:]
        self.stands.append(Stand(now.clocks, told, tellings, now.many))

    def back(self):
        """The last deed that stands is undone."""
        if len(self.stands) == 1:
            raise NoDeed("no deed stands")
        self.stands.pop()

    def stretch_at(self, clock, moment=None):
        """The tuple (low, high) between which the clock's error lies at the moment."""
        check_number(clock)
        if moment is None:
            moment = NOUGHT
        check_moment(moment)
        return self.stands[-1].stretch_then(clock, moment)

    def standing(self):
        """The list of (number, telling) of what stands, as it stands for the errors at the beginning."""
        now = self.stands[-1]
        return [(entry[0], telling) for entry, telling in zip(now.told, now.tellings)]

    def clock_now(self, clock):
        """The clock of this number with all its sets."""
        check_number(clock)
        return self.stands[-1].clocks[clock]

    def narrowed(self):
        """The list of (clock, before, after) of each clock whose stretch the last deed made another one."""
        if len(self.stands) == 1:
            return []
        earlier = self.stands[-2].stretches
        later = self.stands[-1].stretches
        return [
            (clock, before, after) for clock, (before, after) in enumerate(zip(earlier, later)) if before != after
        ]

    def error_by(self, clock, moment, hour):
        """The clock's error at the moment at which it showed the hour, "no" where that can't be."""
        check_number(clock)
        check_moment(moment)
        check_hour(hour)
        error = difference_of(hour, product_of(DAY_HOURS, moment))
        low, high = self.stands[-1].stretch_then(clock, moment)
        if not is_between(error, low, high):
            return NOT_SO
        return error

    def __eq__(self, other):
        if not isinstance(other, Post):
            return False
        return self.stands[-1].clocks == other.stands[-1].clocks and self.standing() == other.standing()

    def __len__(self):
        return len(self.stands[-1].told)

    def __repr__(self):
        now = self.stands[-1]
        many = sum([len(sets) for _, sets in now.clocks])
        return f"Post({len(now.told)} tellings, {many} sets)"
