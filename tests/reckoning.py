"""The same questions answered in the plainest way, for comparison: slowly, and by fractions."""

from fractions import Fraction
from functools import lru_cache
from itertools import combinations
from random import Random

from tests.support import LONG


def as_part(worth):
    return None if worth is None else (worth.numerator, worth.denominator)


def steps_of(tellings):
    """Each step that there is: (number, sign) with its begin, its end and its length."""
    steps = {}
    for number, (one, other, low, high) in enumerate(tellings):
        if high is not None:
            steps[(number, 1)] = (one, other, Fraction(*high))
        if low is not None:
            steps[(number, -1)] = (other, one, -Fraction(*low))
    return steps


@lru_cache(maxsize=100)
def shortest(tellings):
    """The lengths of the shortest ways between any two clocks; below 0 from a clock to itself on a ring."""
    far = {(clock, clock): Fraction(0) for clock in range(6)}
    for begin, end, length in steps_of(tellings).values():
        far[begin, end] = min(length, far.get((begin, end), length))
    for by in range(6):
        for begin in range(6):
            for end in range(6):
                if (begin, by) in far and (by, end) in far:
                    length = far[begin, by] + far[by, end]
                    far[begin, end] = min(length, far.get((begin, end), length))
    return far


def do_agree(tellings):
    far = shortest(tuple(tellings))
    return all([far[clock, clock] >= 0 for clock in range(6)])


def due_stretch(tellings, clock, other):
    far = shortest(tellings)
    low = -far[clock, other] if (clock, other) in far else None
    return (as_part(low), as_part(far.get((other, clock))))


def way_along(tellings, clock, way):
    """The end and the length of a way, None where it is none."""
    steps = steps_of(tellings)
    length = Fraction(0)
    if not isinstance(way, tuple) or len(way) > 60:
        return None
    for step in way:
        if step not in steps or steps[step][0] != clock:
            return None
        clock = steps[step][1]
        length += steps[step][2]
    return (clock, as_part(length))


def is_due_ring(tellings, ring):
    clock, way = ring
    told = way_along(tellings, clock, way)
    return told is not None and told[0] == clock and told[1][0] < 0


def keeps(telling, row):
    one, other, low, high = telling
    apart = Fraction(*row[other]) - Fraction(*row[one])
    return (low is None or Fraction(*low) <= apart) and (high is None or apart <= Fraction(*high))


def keeps_all(tellings, row):
    return all([keeps(telling, row) for telling in tellings])


def rising_numbers(most):
    return [numbers for many in range(most + 1) for numbers in combinations(range(most), many)]


def false_sets(tellings):
    """All false sets, those of few tellings first."""
    found = []
    for numbers in rising_numbers(len(tellings)):
        if do_agree([telling for number, telling in enumerate(tellings) if number not in numbers]):
            found.append(numbers)
    return found


def fewest(tellings):
    found = false_sets(tellings)
    return sorted([numbers for numbers in found if len(numbers) == len(found[0])])


def most_rings(tellings):
    """The greatest number of sets of tellings, no telling in two of them, of which none agrees."""
    many = len(tellings)
    apart = []
    for mask in range(1 << many):
        kept = [tellings[number] for number in range(many) if mask >> number & 1]
        if not do_agree(kept) and not any([mask & other == other for other in apart]):
            apart.append(mask)
    best = [0] * (1 << many)
    for mask in range(1, 1 << many):
        fitting = [1 + best[mask & ~other] for other in apart if mask & other == other]
        best[mask] = max(fitting, default=0)
    return best[-1]


BOTTOMS = (1, 1, 2, 3, 7, LONG)


def part_from(chance, spread):
    bottom = chance.choice(BOTTOMS)
    return Fraction(chance.randint(-spread * bottom, spread * bottom), bottom)


def some_tellings(chance, many, clocks, spread, width, bare):
    """Tellings by chance, of so many clocks; bare of ten lack a bound."""
    tellings = []
    while len(tellings) < many:
        one, other = chance.sample(range(6), 2) if clocks == 6 else chance.sample(range(clocks), 2)
        low = part_from(chance, spread)
        high = low + abs(part_from(chance, width))
        lacking = chance.randint(0, 1) if chance.randint(0, 9) < bare else None
        ends = [None if at == lacking else as_part(end) for at, end in enumerate((low, high))]
        tellings.append((one, other, *ends))
    return tuple(tellings)


def tellings_around(chance, many, row, width, bare):
    """Tellings by chance that a row keeps, some of them just so."""
    tellings = []
    while len(tellings) < many:
        one, other = chance.sample(range(6), 2)
        apart = Fraction(*row[other]) - Fraction(*row[one])
        low = apart - abs(part_from(chance, width)) * chance.randint(0, 1)
        high = apart + abs(part_from(chance, width)) * chance.randint(0, 1)
        lacking = chance.randint(0, 1) if chance.randint(0, 9) < bare else None
        ends = [None if at == lacking else as_part(end) for at, end in enumerate((low, high))]
        tellings.append((one, other, *ends))
    return tuple(tellings)


def many_tellings(seed, count, most):
    """So many tellings of each kind: that agree and that don't, with many bounds and with few."""
    chance = Random(seed)
    found = []
    for _ in range(count):
        row = tuple([(0, 1)] + [as_part(part_from(chance, 5)) for _ in range(5)])
        found.append(tellings_around(chance, chance.randint(0, most), row, 2, chance.choice((0, 3, 8))))
        found.append(some_tellings(chance, chance.randint(0, most), 6, 4, 3, chance.choice((0, 5, 10))))
        found.append(some_tellings(chance, chance.randint(0, most), chance.choice((2, 3, 4)), 2, 2, 2))
    return found


def all_due_stretches(tellings):
    return [due_stretch(tellings, clock, 0) for clock in range(6)]


def without(tellings, number):
    return tellings[:number] + tellings[number + 1:]


def due_worst(tellings, clocks):
    """The greatest width of tellings that agree, None where a clock lacks an end."""
    widths = []
    for clock in clocks:
        low, high = due_stretch(tellings, clock, 0)
        if low is None or high is None:
            return None
        widths.append(Fraction(*high) - Fraction(*low))
    return as_part(max(widths))


def due_width(tellings, offer, clocks):
    """What worst_of is with the offer where it helps, None where it doesn't."""
    told = tellings + (offer,)
    return due_worst(told, clocks) if do_agree(told) else None


def due_best(tellings, offers, clocks):
    widths = [(number, due_width(tellings, offer, clocks)) for number, offer in enumerate(offers)]
    helping = [(Fraction(*width), number) for number, width in widths if width is not None]
    if not helping:
        return None
    width, number = min(helping)
    return (number, as_part(width))


def is_due_row(row):
    """Whether this tuple of six parts begins with nought."""
    return row[0] == (0, 1)


def is_due_free(tellings, clock, some, side):
    """Whether the rising tuple some is as 3.6 tells it where the clock lacks this end."""
    if clock not in some or 0 in some:
        return False
    for one, other, low, high in tellings:
        if side == "low":
            low, high = high, low
        if high is not None and other in some and one not in some:
            return False
        if low is not None and one in some and other not in some:
            return False
    return True


def is_due_reason(tellings, offer, clocks, width, reason):
    """Whether a tuple of a reason's form is a reason."""
    told = tellings + (offer,)
    if reason[0] == "ring":
        return is_due_ring(told, reason[1])
    if reason[1] not in clocks:
        return False
    if reason[0] == "free":
        return is_due_free(told, reason[1], reason[3], reason[2])
    kind, clock, row, other = reason
    if kind != "wide" or width is None or not is_due_row(row) or not is_due_row(other):
        return False
    if not keeps_all(told, row) or not keeps_all(told, other):
        return False
    return Fraction(*other[clock]) - Fraction(*row[clock]) >= Fraction(*width)


def has_due_reason(tellings, offer, clocks, width):
    """Whether there is a reason that the offer is no better than the width."""
    due = due_width(tellings, offer, clocks)
    return due is None or width is not None and Fraction(*due) >= Fraction(*width)


def due_carried(carriage):
    """The telling that a carriage makes."""
    one, other, left, came, days, least, most = carriage
    begun = Fraction(*left) - Fraction(*came)
    gains = [Fraction(*least), Fraction(*most)]
    return (one, other, *[as_part(begun + gain * Fraction(*days)) for gain in gains])


def due_round(there, home):
    """By how much a ship gained there and home, and how far the towns are apart; None where it can't be."""
    _, _, left, came, days, *bounds = [each if isinstance(each, int) else Fraction(*each) for each in there]
    _, _, left_home, came_home, days_home, *bounds_home = [
        each if isinstance(each, int) else Fraction(*each) for each in home
    ]
    # left - came + gain * days is what came_home - left_home - gain * days_home is.
    far = (came_home - left_home) - (left - came)
    if days + days_home == 0:
        gain = max(bounds[0], bounds_home[0])
        fits = far == 0
    else:
        gain = far / (days + days_home)
        fits = True
    if not fits or not max(bounds[0], bounds_home[0]) <= gain <= min(bounds[1], bounds_home[1]):
        return None
    return (as_part(gain), as_part(left - came + gain * days))


class PlainPost:
    """A post that goes through all its deeds anew for each question."""

    def __init__(self, gains):
        self.gains = [Fraction(*gain) for gain in gains]
        self.deeds = []

    def sets_of(self, clock):
        found = [deed[2:] for deed in self.deeds if deed[0] == "sets" and deed[1] == clock]
        return tuple(sorted(found, key=lambda entry: Fraction(*entry[0])))

    def drift(self, clock, moment):
        worth = Fraction(*moment)
        jumps = [Fraction(*jump) for at, jump in self.sets_of(clock) if Fraction(*at) <= worth]
        return worth * self.gains[clock] + sum(jumps)

    def standing(self):
        told = [deed for deed in self.deeds if deed[0] == "tells"]
        false = [deed[1] for deed in self.deeds if deed[0] == "false"]
        return [(number, self.begun(*deed[1:])) for number, deed in enumerate(told) if number not in false]

    def begun(self, moment, one, other, low, high):
        grown = self.drift(other, moment) - self.drift(one, moment)
        ends = [None if end is None else as_part(Fraction(*end) - grown) for end in (low, high)]
        return (one, other, *ends)

    def tellings(self):
        return tuple([telling for _, telling in self.standing()])

    def refusal(self, deed):
        """The refusal of a deed that is made of the right things, None where it is done."""
        if deed[0] == "back":
            return None if self.deeds else "NoDeed"
        if deed[0] == "false":
            return None if deed[1] in [number for number, _ in self.standing()] else "Missing"
        if deed[0] == "tells" and len(self.standing()) == 10:
            return "TooMany"
        if deed[0] == "sets":
            if deed[2] in [at for at, _ in self.sets_of(deed[1])]:
                return "Twice"
            if len(self.sets_of(deed[1])) == 6:
                return "TooMany"
        self.deeds.append(deed)
        agreed = do_agree(self.tellings())
        self.deeds.pop()
        return None if agreed else "Apart"

    def do(self, deed):
        if deed[0] == "back":
            self.deeds.pop()
        else:
            self.deeds.append(deed)

    def stretches(self):
        return all_due_stretches(self.tellings())

    def stretch_at(self, clock, moment):
        grown = self.drift(clock, moment)
        ends = due_stretch(self.tellings(), clock, 0)
        return tuple([None if end is None else as_part(Fraction(*end) + grown) for end in ends])

    def narrowed(self):
        if not self.deeds:
            return []
        after = self.stretches()
        last = self.deeds.pop()
        before = self.stretches()
        self.deeds.append(last)
        return [(clock, before[clock], after[clock]) for clock in range(6) if before[clock] != after[clock]]

    def error_by(self, clock, moment, hour):
        error = Fraction(*hour) - 24 * Fraction(*moment)
        low, high = self.stretch_at(clock, moment)
        if low is not None and error < Fraction(*low) or high is not None and error > Fraction(*high):
            return "no"
        return as_part(error)

    def clock_now(self, clock):
        return (as_part(self.gains[clock]), self.sets_of(clock))


def some_deed(chance, post, row):
    """A deed by chance, mostly one that a row of errors at the beginning keeps."""
    kind = chance.choice(["tells"] * 5 + ["sets"] * 3 + ["false", "back"])
    moment = as_part(abs(part_from(chance, 4)))
    if kind == "back":
        return ("back",)
    if kind == "false":
        return ("false", chance.randint(0, 12))
    if kind == "sets":
        return ("sets", chance.randint(1, 5), moment, as_part(part_from(chance, 3) or Fraction(1, 7)))
    one, other = chance.sample(range(6), 2)
    apart = Fraction(*row[other]) - Fraction(*row[one]) + post.drift(other, moment) - post.drift(one, moment)
    wide = chance.choice((0, 1, 3, 30))
    low = apart - abs(part_from(chance, wide))
    high = apart + abs(part_from(chance, wide))
    if chance.randint(0, 9) == 0:
        low, high = low + 2, high + 2
    lacking = chance.randint(0, 1) if chance.randint(0, 3) == 0 else None
    ends = [None if at == lacking else as_part(end) for at, end in enumerate((low, high))]
    return ("tells", moment, one, other, *ends)


def line_of(deed):
    """The line that tells a desk this deed."""
    words = [shown_word(each) for each in deed]
    return " ".join(words)


def shown_word(thing):
    if thing is None:
        return "*"
    if isinstance(thing, tuple):
        return str(Fraction(*thing))
    return str(thing)
