"""Lies: the fewest tellings that must be false where they can't all be, and rings that show it."""

from itertools import combinations

from gunclocks.arcs import plain_rings
from gunclocks.errors import NoNumber, NoQuarrel, TooMany
from gunclocks.parts import are_rising
from gunclocks.stretches import agree
from gunclocks.tellings import check_row, check_tellings, is_kept, is_ring

# So many that all sets of them may be gone through.
MOST_SEARCHED = 10


def check_few(tellings):
    """Refuse with NoTellings what is no tellings, with TooMany what are too many to search."""
    check_tellings(tellings)
    if len(tellings) > MOST_SEARCHED:
        raise TooMany(len(tellings), MOST_SEARCHED)


def without(tellings, numbers):
    """The tellings but for those of these numbers, in order."""
    return tuple([telling for number, telling in enumerate(tellings) if number not in numbers])


def is_false_set(tellings, thing):
    """Whether thing is a rising tuple of numbers of tellings such that all others agree."""
    check_tellings(tellings)
    return are_rising(thing, 0, len(tellings)) and agree(without(tellings, thing))


def held_by(ring):
    """The numbers of the tellings on the ring, step by step."""
    return [number for number, _ in ring[1]]


def held_by_all(rings):
    """The rising list of the numbers of the tellings on these rings."""
    return sorted({number for ring in rings for number in held_by(ring)})


def mask_of(numbers):
    """The whole number that has just the bits of these numbers."""
    mask = 0
    for number in numbers:
        mask = mask | (1 << number)
    return mask


def are_all_hit(masks, hit):
    """Whether each of these masks has a bit of the mask hit."""
    for mask in masks:
        if mask & hit == 0:
            return False
    return True


def false_sets(masks, numbers, many):
    """The list, rising, of all sets of so many of these numbers that have one of each mask's."""
    return [chosen for chosen in combinations(numbers, many) if are_all_hit(masks, mask_of(chosen))]


def all_fewest(tellings):
    """The list, rising, of all false sets of as few tellings as can be."""
    check_few(tellings)
    # Tellings agree just where no ring is left, and a ring that comes to a clock twice holds a plain one.
    rings = plain_rings(tellings)
    masks = [mask_of(held_by(ring)) for ring in rings]
    # In a fewest set is none that is on no ring.
    numbers = held_by_all(rings)
    found = []
    many = 0
    while not found:
        found = false_sets(masks, numbers, many)
        many = many + 1
    return found


def fewest_false(tellings):
    """The first false set of as few tellings as can be."""
    return all_fewest(tellings)[0]


def blamed(tellings):
    """For each telling in how many of all fewest false sets it is."""
    fewest = all_fewest(tellings)
    return tuple([len([1 for chosen in fewest if number in chosen]) for number in range(len(tellings))])


def surely_false(tellings):
    """The rising tuple of the numbers that are in each of all fewest false sets."""
    fewest = all_fewest(tellings)
    return tuple([number for number in fewest[0] if all([number in chosen for chosen in fewest])])


def cleared(tellings, lies):
    """The tellings that are left without a false set of them, in order."""
    if not is_false_set(tellings, lies):
        raise NoNumber("these are no numbers of a false set")
    return without(tellings, lies)


def kept_by(tellings, row):
    """The rising tuple of the numbers of the tellings that the row keeps."""
    check_tellings(tellings)
    check_row(row)
    return tuple([number for number, telling in enumerate(tellings) if is_kept(telling, row)])


def are_strangers(rings):
    """Whether no telling is on two of these rings."""
    seen = 0
    for ring in rings:
        mask = mask_of(held_by(ring))
        if seen & mask != 0:
            return False
        seen = seen | mask
    return True


def are_quarrelling(tellings, thing):
    """Whether thing is a list of rings of the tellings such that no telling is on two of them."""
    if not isinstance(thing, list):
        return False
    return all([is_ring(tellings, ring) for ring in thing]) and are_strangers(thing)


class Quarrel:
    """Rings of tellings, no telling on two of them: as many tellings at least are false."""

    def __init__(self, tellings, rings=None):
        check_tellings(tellings)
        if rings is None:
            rings = []
        if not are_quarrelling(tellings, rings):
            raise NoQuarrel("this is no list of rings without a telling in common")
        self.tellings = tellings
        self.rings = list(rings)

    def all_rings(self):
        """The list of the rings, in the order told."""
        return list(self.rings)

    def held(self):
        """The rising tuple of the numbers of all tellings on the rings."""
        return tuple(held_by_all(self.rings))

    def with_ring(self, ring):
        """The quarrel with this ring behind."""
        return Quarrel(self.tellings, self.rings + [ring])

    def __eq__(self, other):
        if not isinstance(other, Quarrel):
            return False
        return self.tellings == other.tellings and sorted(self.rings) == sorted(other.rings)

    def __len__(self):
        return len(self.rings)

    def __repr__(self):
        return f"Quarrel({len(self.rings)})"


def most_apart(masks, free, known):
    """As many of the masks as can be, all within the mask free, without a bit in common.

    What was found for each mask free is kept in known.
    """
    if free not in known:
        highest = 1 << (free.bit_length() - 1)
        best = most_apart(masks, free - highest, known)
        for mask in masks:
            if mask & highest != 0 and mask & free == mask:
                more = most_apart(masks, free - mask, known) + (mask,)
                if len(more) > len(best):
                    best = more
        known[free] = best
    return known[free]


def best_quarrel(tellings):
    """Some quarrel of the tellings of as many rings as can be."""
    check_few(tellings)
    rings = plain_rings(tellings)
    ring_by_mask = {mask_of(held_by(ring)): ring for ring in rings}
    chosen = most_apart(list(ring_by_mask), mask_of(held_by_all(rings)), {0: ()})
    return Quarrel(tellings, [ring_by_mask[mask] for mask in chosen])
