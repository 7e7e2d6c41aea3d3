"""The same questions answered in the plainest way, for comparison: slowly, and by fractions."""

from fractions import Fraction
from itertools import combinations
from random import Random

from tests.support import LONG


def as_part(worth):
    return None if worth is None else (worth.numerator, worth.denominator)


def steps_of(tellings):
    """Each step that there is: (number, sign) with its begin, its end and its length."""
    steps = {}
    for number, (one, other, low, high) in enumerate(tellings):
        if high is not None:
            steps[(number, 1)] = (one, other, Fraction(*high))
        if low is not None:
            steps[(number, -1)] = (other, one, -Fraction(*low))
    return steps


def shortest(tellings):
    """The lengths of the shortest ways between any two clocks; below 0 from a clock to itself on a ring."""
    far = {(clock, clock): Fraction(0) for clock in range(6)}
    for begin, end, length in steps_of(tellings).values():
        far[begin, end] = min(length, far.get((begin, end), length))
    for by in range(6):
        for begin in range(6):
            for end in range(6):
                if (begin, by) in far and (by, end) in far:
                    length = far[begin, by] + far[by, end]
                    far[begin, end] = min(length, far.get((begin, end), length))
    return far


def do_agree(tellings):
    far = shortest(tellings)
    return all([far[clock, clock] >= 0 for clock in range(6)])


def due_stretch(tellings, clock, other):
    far = shortest(tellings)
    low = -far[clock, other] if (clock, other) in far else None
    return (as_part(low), as_part(far.get((other, clock))))


def way_along(tellings, clock, way):
    """The end and the length of a way, None where it is none."""
    steps = steps_of(tellings)
    length = Fraction(0)
    if not isinstance(way, tuple) or len(way) > 60:
        return None
    for step in way:
        if step not in steps or steps[step][0] != clock:
            return None
        clock = steps[step][1]
        length += steps[step][2]
    return (clock, as_part(length))


def is_due_ring(tellings, ring):
    clock, way = ring
    told = way_along(tellings, clock, way)
    return told is not None and told[0] == clock and told[1][0] < 0


def keeps(telling, row):
    one, other, low, high = telling
    apart = Fraction(*row[other]) - Fraction(*row[one])
    return (low is None or Fraction(*low) <= apart) and (high is None or apart <= Fraction(*high))


def keeps_all(tellings, row):
    return all([keeps(telling, row) for telling in tellings])


def rising_numbers(most):
    return [numbers for many in range(most + 1) for numbers in combinations(range(most), many)]


def false_sets(tellings):
    """All false sets, those of few tellings first."""
    found = []
    for numbers in rising_numbers(len(tellings)):
        if do_agree([telling for number, telling in enumerate(tellings) if number not in numbers]):
            found.append(numbers)
    return found


def fewest(tellings):
    found = false_sets(tellings)
    return sorted([numbers for numbers in found if len(numbers) == len(found[0])])


def most_rings(tellings):
    """The greatest number of sets of tellings, no telling in two of them, of which none agrees."""
    many = len(tellings)
    apart = []
    for mask in range(1 << many):
        kept = [tellings[number] for number in range(many) if mask >> number & 1]
        if not do_agree(kept) and not any([mask & other == other for other in apart]):
            apart.append(mask)
    best = [0] * (1 << many)
    for mask in range(1, 1 << many):
        fitting = [1 + best[mask & ~other] for other in apart if mask & other == other]
        best[mask] = max(fitting, default=0)
    return best[-1]


BOTTOMS = (1, 1, 2, 3, 7, LONG)


def part_from(chance, spread):
    bottom = chance.choice(BOTTOMS)
    return Fraction(chance.randint(-spread * bottom, spread * bottom), bottom)


def some_tellings(chance, many, clocks, spread, width, bare):
    """Tellings by chance, of so many clocks; bare of ten lack a bound."""
    tellings = []
    while len(tellings) < many:
        one, other = chance.sample(range(6), 2) if clocks == 6 else chance.sample(range(clocks), 2)
        low = part_from(chance, spread)
        high = low + abs(part_from(chance, width))
        lacking = chance.randint(0, 1) if chance.randint(0, 9) < bare else None
        ends = [None if at == lacking else as_part(end) for at, end in enumerate((low, high))]
        tellings.append((one, other, *ends))
    return tuple(tellings)


def tellings_around(chance, many, row, width, bare):
    """Tellings by chance that a row keeps, some of them just so."""
    tellings = []
    while len(tellings) < many:
        one, other = chance.sample(range(6), 2)
        apart = Fraction(*row[other]) - Fraction(*row[one])
        low = apart - abs(part_from(chance, width)) * chance.randint(0, 1)
        high = apart + abs(part_from(chance, width)) * chance.randint(0, 1)
        lacking = chance.randint(0, 1) if chance.randint(0, 9) < bare else None
        ends = [None if at == lacking else as_part(end) for at, end in enumerate((low, high))]
        tellings.append((one, other, *ends))
    return tuple(tellings)


def many_tellings(seed, count, most):
    """So many tellings of each kind: that agree and that don't, with many bounds and with few."""
    chance = Random(seed)
    found = []
    for _ in range(count):
        row = tuple([(0, 1)] + [as_part(part_from(chance, 5)) for _ in range(5)])
        found.append(tellings_around(chance, chance.randint(0, most), row, 2, chance.choice((0, 3, 8))))
        found.append(some_tellings(chance, chance.randint(0, most), 6, 4, 3, chance.choice((0, 5, 10))))
        found.append(some_tellings(chance, chance.randint(0, most), chance.choice((2, 3, 4)), 2, 2, 2))
    return found
