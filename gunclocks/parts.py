"""Parts: tuples (top, bottom) that stand for top divided by bottom, in lowest terms."""

from math import gcd

from gunclocks.errors import NoNumber, NoPart

NOUGHT = (0, 1)


def is_whole(thing):
    """Whether thing is a whole number: Python counts a truth as an int, but it is none."""
    return isinstance(thing, int) and not isinstance(thing, bool)


def are_rising(thing, least, end):
    """Whether thing is a rising tuple of whole numbers from least on, all of them ahead of end."""
    if not isinstance(thing, tuple):
        return False
    if not all([is_whole(number) and least <= number < end for number in thing]):
        return False
    return all([ahead < behind for ahead, behind in zip(thing, thing[1:])])


def is_part(thing):
    """Whether thing is a part."""
    if not isinstance(thing, tuple) or len(thing) != 2:
        return False
    top, bottom = thing
    if not is_whole(top) or not is_whole(bottom):
        return False
    return bottom > 0 and gcd(top, bottom) == 1


def is_from_nought(thing):
    """Whether thing is a part from 0 on."""
    return is_part(thing) and thing[0] >= 0


def check_part(thing):
    """Refuse with NoPart what is no part."""
    # No message shows what was handed in: Python refuses to write very long numbers.
    if not is_part(thing):
        raise NoPart("this is no part")


def part_of(top, bottom):
    """The part that top divided by bottom is."""
    if not is_whole(top):
        raise NoNumber("the top is no whole number")
    if not is_whole(bottom) or bottom == 0:
        raise NoNumber("the bottom is no whole number, or it is 0")
    return lowest(top, bottom)


def lowest(top, bottom):
    """The part that top divided by bottom is, of whole numbers, bottom not 0."""
    shared = gcd(top, bottom)
    if bottom < 0:
        shared = -shared
    return (top // shared, bottom // shared)


def sum_of(one, other):
    """The sum of two parts that were looked at already."""
    top = one[0] * other[1] + other[0] * one[1]
    bottom = one[1] * other[1]
    shared = gcd(top, bottom)
    return (top // shared, bottom // shared)


def difference_of(one, other):
    """The first part less the second, of parts that were looked at already."""
    top = one[0] * other[1] - other[0] * one[1]
    bottom = one[1] * other[1]
    shared = gcd(top, bottom)
    return (top // shared, bottom // shared)


def product_of(one, other):
    """The product of two parts that were looked at already."""
    top = one[0] * other[0]
    bottom = one[1] * other[1]
    shared = gcd(top, bottom)
    return (top // shared, bottom // shared)


def opposite(part):
    """Nought less the part, of one that was looked at already."""
    return (-part[0], part[1])


def is_below(one, other):
    """Whether the first part is less than the second, of parts that were looked at already."""
    return one[0] * other[1] < other[0] * one[1]


def added(one, other):
    """The sum of two parts."""
    check_part(one)
    check_part(other)
    return sum_of(one, other)


def less(one, other):
    """The first part less the second."""
    check_part(one)
    check_part(other)
    return difference_of(one, other)


def times(one, other):
    """The product of two parts."""
    check_part(one)
    check_part(other)
    return product_of(one, other)


def divided(one, other):
    """The first part divided by the second, which is not 0."""
    return lowest(one[0] * other[1], one[1] * other[0])


def is_less(one, other):
    """Whether the first part is less than the second."""
    check_part(one)
    check_part(other)
    return one[0] * other[1] < other[0] * one[1]
