"""0.2, 0.3 and 1.1, as far as they speak of gunclocks/parts.py."""

import unittest
from fractions import Fraction

from gunclocks.errors import NoNumber, NoPart
from gunclocks.parts import added, is_less, is_part, less, part_of, times
from tests.support import LONG, NO_PARTS, NO_WHOLES, PARTS, Case

PAIRS = [(one, other) for one in PARTS for other in PARTS]


def as_part(worth):
    return (worth.numerator, worth.denominator)


class IsPart(Case):
    def test_parts(self):
        for part in PARTS:
            self.tells(True, is_part, part)

    def test_none_of_them(self):
        for wrong in NO_PARTS:
            self.tells(False, is_part, wrong)

    def test_nought_is_written_in_one_way(self):
        self.tells(True, is_part, (0, 1))
        for bottom in (2, 3, -1, 0, LONG):
            self.tells(False, is_part, (0, bottom))

    def test_lowest_terms_of_all_small_ones(self):
        for top in range(-12, 13):
            for bottom in range(-12, 13):
                due = bottom > 0 and as_part(Fraction(top, bottom)) == (top, bottom)
                self.tells(due, is_part, (top, bottom))

    def test_by_name(self):
        self.tells(True, is_part, thing=(1, 2))
        self.tells(False, is_part, thing=[1, 2])


class PartOf(Case):
    def test_ordinary(self):
        self.tells((1, 2), part_of, 1, 2)
        self.tells((2, 3), part_of, 4, 6)
        self.tells((3, 1), part_of, 12, 4)
        self.tells((7, 1), part_of, 7, 1)

    def test_nought(self):
        for bottom in (1, -1, 5, -5, LONG, -LONG):
            self.tells((0, 1), part_of, 0, bottom)

    def test_signs(self):
        self.tells((-1, 2), part_of, -1, 2)
        self.tells((-1, 2), part_of, 1, -2)
        self.tells((1, 2), part_of, -1, -2)
        self.tells((-2, 3), part_of, 4, -6)
        self.tells((2, 3), part_of, -4, -6)
        self.tells((-3, 1), part_of, 3, -1)

    def test_against_fractions(self):
        wholes = list(range(-9, 10)) + [LONG, -LONG, LONG - 1, 10 ** 39, 6 ** 51, -(10 ** 39)]
        for top in wholes:
            for bottom in wholes:
                if bottom != 0:
                    self.tells(as_part(Fraction(top, bottom)), part_of, top, bottom)

    def test_top_that_is_no_whole_number(self):
        for wrong in NO_WHOLES:
            self.refuses(NoNumber, part_of, wrong, 1)
            self.refuses(NoNumber, part_of, wrong, 0)

    def test_bottom_that_is_no_whole_number_or_nought(self):
        for wrong in NO_WHOLES + [0]:
            self.refuses(NoNumber, part_of, 1, wrong)
            self.refuses(NoNumber, part_of, 0, wrong)
            self.refuses(NoNumber, part_of, None, wrong)

    def test_by_name(self):
        self.tells((-3, 2), part_of, bottom=-4, top=6)
        self.refuses(NoNumber, part_of, bottom=0, top=6)


class Reckoning(Case):
    def test_ordinary(self):
        self.tells((5, 6), added, (1, 2), (1, 3))
        self.tells((1, 6), less, (1, 2), (1, 3))
        self.tells((-1, 6), less, (1, 3), (1, 2))
        self.tells((1, 6), times, (1, 2), (1, 3))

    def test_what_is_told_is_in_lowest_terms(self):
        self.tells((1, 1), added, (1, 2), (1, 2))
        self.tells((0, 1), added, (1, 2), (-1, 2))
        self.tells((0, 1), less, (5, 7), (5, 7))
        self.tells((1, 2), times, (2, 3), (3, 4))
        self.tells((0, 1), times, (0, 1), (-3, 4))
        self.tells((-1, 1), times, (-3, 4), (4, 3))
        self.tells((1, 1), times, (-3, 4), (-4, 3))

    def test_against_fractions(self):
        for one, other in PAIRS:
            first, second = Fraction(*one), Fraction(*other)
            self.tells(as_part(first + second), added, one, other)
            self.tells(as_part(first - second), less, one, other)
            self.tells(as_part(first * second), times, one, other)

    def test_what_is_told_is_handed_in_again_however_long(self):
        told, due = (1, 1), Fraction(1)
        for _ in range(120):
            told = times(told, (LONG, LONG - 1))
            due *= Fraction(LONG, LONG - 1)
        self.assertTrue(told == as_part(due))
        self.assertIs(is_part(told), True)
        self.assertTrue(added(told, (1, 2)) == as_part(due + Fraction(1, 2)))
        self.assertTrue(less(told, told) == (0, 1))
        self.assertIs(is_less(told, added(told, (1, LONG))), True)
        for call in (added, less, times, is_less):
            self.refuses(NoPart, call, told, None)
            self.refuses(NoPart, call, (told[0] * 2, told[1] * 2), told)

    def test_by_name(self):
        self.tells((5, 6), added, other=(1, 3), one=(1, 2))
        self.tells((1, 6), less, other=(1, 3), one=(1, 2))
        self.tells((1, 6), times, other=(1, 3), one=(1, 2))
        self.tells(False, is_less, other=(1, 3), one=(1, 2))


class IsLess(Case):
    def test_ordinary(self):
        self.tells(True, is_less, (1, 3), (1, 2))
        self.tells(False, is_less, (1, 2), (1, 3))
        self.tells(True, is_less, (-1, 2), (-1, 3))
        self.tells(False, is_less, (-1, 3), (-1, 2))
        self.tells(True, is_less, (-1, 2), (0, 1))

    def test_alike_is_not_less(self):
        for part in PARTS:
            self.tells(False, is_less, part, part)

    def test_against_fractions(self):
        for one, other in PAIRS:
            self.tells(Fraction(*one) < Fraction(*other), is_less, one, other)


class Refusals(Case):
    def test_what_is_no_part_in_either_place(self):
        for call in (added, less, times, is_less):
            for wrong in NO_PARTS:
                self.refuses(NoPart, call, wrong, (1, 2))
                self.refuses(NoPart, call, (1, 2), wrong)
                self.refuses(NoPart, call, wrong, wrong)
                self.refuses(NoPart, call, (0, 1), wrong)
                self.refuses(NoPart, call, wrong, (0, 1))
                self.refuses(NoPart, call, one=(1, 2), other=wrong)


class Interface(unittest.TestCase):
    def test_defined_in_this_file(self):
        for call in (is_part, part_of, added, less, times, is_less):
            self.assertEqual(call.__module__, "gunclocks.parts")
