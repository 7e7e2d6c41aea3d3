"""0.2, 0.3, 3.1, 3.2, 3.3 and 3.4 (what a ring is), as far as they speak of gunclocks/tellings.py."""

import unittest
from fractions import Fraction
from itertools import product

from gunclocks.errors import NoNumber, NoRow, NoTellings
from gunclocks.parts import added, is_less, less, times
from gunclocks.tellings import are_tellings, first_broken, is_ring, is_telling, way_of
from tests.support import (
    DEEP, LONG, NO_NUMBERS, NO_PARTS, NO_ROWS, NO_TELLING, NO_TELLINGS, ROW, SIXTEEN, TELLING, TELLINGS,
    TELLINGS_ALONE, WIDE_TEXT, Case,
)

# Along these the steps (0, 1) and (4, 1) lead from 0 to 1, (2, 1) and (3, -1) from 0 to 2.
ROADS = (
    (0, 1, (-1, 1), (2, 1)),
    (1, 2, (1, 2), None),
    (0, 2, None, (1, 3)),
    (2, 0, (-5, 1), (-4, 1)),
    (0, 1, (0, 1), (0, 1)),
)
STEPS = {
    (0, 1): (0, 1, (2, 1)), (0, -1): (1, 0, (1, 1)), (1, -1): (2, 1, (-1, 2)), (2, 1): (0, 2, (1, 3)),
    (3, 1): (2, 0, (-4, 1)), (3, -1): (0, 2, (5, 1)), (4, 1): (0, 1, (0, 1)), (4, -1): (1, 0, (0, 1)),
}
NO_STEPS = [
    None, True, False, 0, 1, "", "01", (), (0,), (0, 1, 1), ((0, 1),), [0, 1], [], {}, {0: 1}, DEEP, WIDE_TEXT,
    (0, 0), (0, 2), (0, -2), (0, 3), (0, LONG), (0, -LONG), (0, True), (0, False), (4, True), (0, None), (0, "1"),
    (0, (1,)), (0, [1]), (0, (1, 1)), (False, 1), (False, -1), (True, 1), (True, -1), (None, 1), ("0", 1), ((0,), 1),
    ([0], 1), ({}, 1), ((0, 1), 1), (-1, 1), (-1, -1), (-5, 1), (-2, -1), (5, 1), (5, -1), (6, 1), (LONG, 1),
    (-LONG, 1),
    (False, True), (0, 1, None),
]
NO_WAYS = [
    None, True, False, 0, 1, "", "01", WIDE_TEXT, [], {}, DEEP, [(0, 1)], (0, 1), ((0, 1), [0, -1]),
    {(0, 1): (0, -1)},
    {0: (0, 1)}, (((0, 1),),), (((0, 1), (0, -1)),), [(2, 1), (3, 1)], ([(2, 1), (3, 1)],),
]


def due_way(clock, way):
    length = Fraction(0)
    for step in way:
        if step not in STEPS or STEPS[step][0] != clock:
            return None
        clock = STEPS[step][1]
        length += Fraction(*STEPS[step][2])
    return (clock, (length.numerator, length.denominator))


def all_ways():
    steps = list(product(range(5), (1, -1)))
    return [way for many in range(5) for way in product(steps, repeat=many)]


def keeps(telling, row):
    one, other, low, high = telling
    apart = Fraction(*row[other]) - Fraction(*row[one])
    return (low is None or Fraction(*low) <= apart) and (high is None or apart <= Fraction(*high))


def due_broken(tellings, row):
    broken = [number for number, telling in enumerate(tellings) if not keeps(telling, row)]
    return broken[0] if broken else None


class IsTelling(Case):
    def test_tellings_alone(self):
        for telling in TELLINGS_ALONE:
            self.tells(True, is_telling, telling)

    def test_none_of_them(self):
        for wrong in NO_TELLING:
            self.tells(False, is_telling, wrong)

    def test_all_pairs_of_clocks(self):
        for one, other in product(range(-1, 8), repeat=2):
            due = one != other and 0 <= one < 6 and 0 <= other < 6
            self.tells(due, is_telling, (one, other, (0, 1), None))

    def test_what_is_no_number_of_a_clock(self):
        for wrong in NO_NUMBERS:
            self.tells(False, is_telling, (wrong, 2, (0, 1), (1, 1)))
            self.tells(False, is_telling, (2, wrong, (0, 1), (1, 1)))

    def test_bounds(self):
        self.tells(True, is_telling, (0, 1, (1, 2), (1, 2)))
        self.tells(True, is_telling, (0, 1, (2, 5), (1, 2)))
        self.tells(False, is_telling, (0, 1, (1, 2), (2, 5)))
        self.tells(True, is_telling, (0, 1, None, (-1, 1)))
        self.tells(True, is_telling, (0, 1, (1, 1), None))
        self.tells(False, is_telling, (0, 1, None, None))

    def test_by_name(self):
        self.tells(True, is_telling, thing=TELLING)
        self.tells(False, is_telling, thing=None)


class AreTellings(Case):
    def test_tellings(self):
        for tellings in TELLINGS:
            self.tells(True, are_tellings, tellings)

    def test_none_of_them(self):
        for wrong in NO_TELLINGS:
            self.tells(False, are_tellings, wrong)

    def test_sixteen_at_most(self):
        for many in range(20):
            self.tells(many <= 16, are_tellings, (TELLING,) * many)

    def test_one_wrong_among_them_in_each_place(self):
        for at in range(16):
            self.tells(False, are_tellings, SIXTEEN[:at] + (list(TELLING),) + SIXTEEN[at + 1:])

    def test_by_name(self):
        self.tells(True, are_tellings, thing=())
        self.tells(False, are_tellings, thing=[])


class FirstBroken(Case):
    def test_none_broken(self):
        self.tells(None, first_broken, (), ROW)
        self.tells(None, first_broken, (TELLING,), ROW)
        self.tells(None, first_broken, ((0, 1, (1, 2), (1, 2)), (1, 0, (-1, 2), (-1, 2))), ROW)

    def test_the_first_of_several(self):
        kept, broken = (0, 1, (1, 2), None), (0, 1, (2, 3), None)
        self.tells(0, first_broken, (broken,), ROW)
        self.tells(0, first_broken, (broken, kept, broken), ROW)
        self.tells(1, first_broken, (kept, broken, broken), ROW)
        self.tells(2, first_broken, (kept, kept, broken, kept), ROW)
        self.tells(15, first_broken, (kept,) * 15 + (broken,), ROW)

    def test_ends_are_kept(self):
        step = Fraction(1, LONG)
        for one, other in product(range(6), repeat=2):
            if one != other:
                self.look_at_ends(one, other, Fraction(*ROW[other]) - Fraction(*ROW[one]), step)

    def look_at_ends(self, one, other, apart, step):
        here, below, above = [(each.numerator, each.denominator) for each in (apart, apart - step, apart + step)]
        for low, high, due in (
            (here, here, None), (here, None, None), (None, here, None), (below, above, None), (below, here, None),
            (here, above, None), (above, None, 0), (None, below, 0), (above, above, 0), (below, below, 0),
        ):
            self.tells(due, first_broken, ((one, other, low, high),), ROW)

    def test_against_fractions(self):
        worths = ((0, 1), (-1, 2), (2, 3), (4, 1))
        for one, two, three in product(worths, repeat=3):
            row = ((0, 1), one, two, three, (5, 1), (-1, 3))
            for tellings in TELLINGS + [ROADS, ROADS[1:], ROADS[::-1], ROADS[2:3]]:
                self.tells(due_broken(tellings, row), first_broken, tellings, row)

    def test_by_name(self):
        self.tells(0, first_broken, row=ROW, tellings=((0, 1, (2, 3), None),))


class WayOf(Case):
    def test_no_step(self):
        for clock in range(6):
            self.tells((clock, (0, 1)), way_of, ROADS, clock, ())
            self.tells((clock, (0, 1)), way_of, (), clock, ())

    def test_one_step(self):
        for number, sign, clock in product(range(5), (1, -1), range(6)):
            self.tells(due_way(clock, ((number, sign),)), way_of, ROADS, clock, ((number, sign),))

    def test_lengths(self):
        self.tells((1, (2, 1)), way_of, ROADS, 0, ((0, 1),))
        self.tells((0, (1, 1)), way_of, ROADS, 1, ((0, -1),))
        self.tells((1, (-1, 2)), way_of, ROADS, 2, ((1, -1),))
        self.tells((1, (-1, 6)), way_of, ROADS, 0, ((2, 1), (1, -1)))
        self.tells((0, (-11, 3)), way_of, ROADS, 0, ((2, 1), (3, 1)))

    def test_no_step_where_the_bound_is_none(self):
        self.tells(None, way_of, ROADS, 1, ((1, 1),))
        self.tells(None, way_of, ROADS, 2, ((2, -1),))
        self.tells(None, way_of, ROADS, 0, ((0, 1), (1, 1)))

    def test_a_step_begins_where_the_one_ahead_ended(self):
        self.tells(None, way_of, ROADS, 1, ((0, 1),))
        self.tells(None, way_of, ROADS, 0, ((0, -1),))
        self.tells(None, way_of, ROADS, 0, ((0, 1), (0, 1)))
        self.tells(None, way_of, ROADS, 3, ((0, 1),))
        self.tells(None, way_of, ROADS, 0, ((0, 1), (3, 1)))

    def test_all_short_ways(self):
        for way in all_ways():
            for clock in range(4):
                due = due_way(clock, way)
                if way_of(ROADS, clock, way) != due:
                    self.tells(due, way_of, ROADS, clock, way)

    def test_sixty_steps_at_most(self):
        there_and_back = ((0, 1), (0, -1))
        self.tells((1, (89, 1)), way_of, ROADS, 0, (there_and_back * 30)[:59])
        self.tells((0, (90, 1)), way_of, ROADS, 0, there_and_back * 30)
        self.tells(None, way_of, ROADS, 0, (there_and_back * 31)[:61])
        self.tells(None, way_of, ROADS, 0, there_and_back * 31)
        self.tells(None, way_of, ROADS, 0, there_and_back * 100)

    def test_what_is_no_step(self):
        for wrong in NO_STEPS:
            for clock in range(3):
                self.tells(None, way_of, ROADS, clock, (wrong,))
            self.tells(None, way_of, ROADS, 0, ((0, 1), wrong))
            self.tells(None, way_of, ROADS, 0, (wrong, (0, 1)))
            self.tells(None, way_of, ROADS, 0, ((0, 1), (0, -1), wrong))
            self.tells(None, way_of, ROADS, 0, ((2, 1), wrong))

    def test_what_is_no_way(self):
        for wrong in NO_WAYS:
            for clock in range(3):
                self.tells(None, way_of, ROADS, clock, wrong)

    def test_numbers_of_other_tellings(self):
        self.tells(None, way_of, (), 0, ((0, 1),))
        self.tells(None, way_of, ROADS[:1], 0, ((4, 1),))
        self.tells(None, way_of, ROADS[:1], 0, ((-1, 1),))
        self.tells((1, (1, 2)), way_of, SIXTEEN, 0, ((12, 1),))
        self.tells(None, way_of, SIXTEEN, 0, ((16, 1),))

    def test_the_error_of_the_end_is_bounded(self):
        row = ((0, 1), (1, 1), (2, 1), (0, 1), (0, 1), (0, 1))
        tellings = ((0, 1, (-1, 1), (2, 1)), (1, 2, (1, 2), (1, 1)), (0, 2, None, (7, 3)))
        self.tells(None, first_broken, tellings, row)
        for way in product(product(range(3), (1, -1)), repeat=3):
            for clock in range(3):
                told = way_of(tellings, clock, way)
                if told is not None:
                    self.assertFalse(is_less(added(row[clock], told[1]), row[told[0]]))

    def test_by_name(self):
        self.tells((1, (2, 1)), way_of, thing=((0, 1),), clock=0, tellings=ROADS)


class IsRing(Case):
    def test_rings(self):
        self.tells(True, is_ring, ROADS, (0, ((2, 1), (3, 1))))
        self.tells(True, is_ring, ROADS, (2, ((3, 1), (2, 1))))
        self.tells(True, is_ring, ROADS, (0, ((2, 1), (1, -1), (4, -1))))
        self.tells(True, is_ring, ROADS, (0, ((2, 1), (3, 1), (2, 1), (3, 1))))
        self.tells(True, is_ring, ROADS, (0, ((0, 1), (0, -1), (2, 1), (3, 1))))
        self.tells(True, is_ring, ROADS, (2, ((1, -1), (4, -1), (2, 1))))

    def test_length_below_nought(self):
        self.tells(False, is_ring, ROADS, (0, ((4, 1), (4, -1))))
        self.tells(False, is_ring, ROADS, (0, ((0, 1), (0, -1))))
        near = (
            (0, 1, None, (1, 1)), (1, 0, None, (-1, 1)),
            (1, 0, None, (-LONG, LONG - 1)), (1, 0, None, (1 - LONG, LONG)),
        )
        self.tells(False, is_ring, near, (0, ((0, 1), (1, 1))))
        self.tells(True, is_ring, near, (0, ((0, 1), (2, 1))))
        self.tells(False, is_ring, near, (0, ((0, 1), (3, 1))))

    def test_back_to_the_clock(self):
        self.tells(False, is_ring, ROADS, (2, ((3, 1),)))
        self.tells(False, is_ring, ROADS, (2, ((1, -1),)))
        self.tells(False, is_ring, ROADS, (1, ((1, -1),)))
        self.tells(False, is_ring, ROADS, (0, ((2, 1), (1, -1))))
        self.tells(False, is_ring, ROADS, (1, ((2, 1), (3, 1))))
        self.tells(False, is_ring, ROADS, (3, ((2, 1), (3, 1))))

    def test_no_step_is_no_ring(self):
        for clock in range(6):
            self.tells(False, is_ring, ROADS, (clock, ()))
            self.tells(False, is_ring, (), (clock, ()))

    def test_all_short_ways(self):
        for way in all_ways():
            for clock in range(4):
                told = due_way(clock, way)
                due = told is not None and told[0] == clock and told[1][0] < 0
                if is_ring(ROADS, (clock, way)) is not due:
                    self.tells(due, is_ring, ROADS, (clock, way))

    def test_sixty_steps_at_most(self):
        there_and_back = ((2, 1), (3, 1))
        self.tells(True, is_ring, ROADS, (0, there_and_back * 30))
        self.tells(False, is_ring, ROADS, (0, there_and_back * 31))
        around = ((2, 1), (1, -1), (4, -1))
        self.tells(True, is_ring, ROADS, (0, there_and_back * 28 + around))
        self.tells(False, is_ring, ROADS, (0, there_and_back * 29 + around))

    def test_what_is_no_clock_s_number(self):
        for wrong in NO_NUMBERS:
            for way in (((2, 1), (3, 1)), ()):
                self.tells(False, is_ring, ROADS, (wrong, way))
        near = ((1, 0, None, (1, 1)), (0, 1, None, (-2, 1)))
        self.tells(True, is_ring, near, (1, ((0, 1), (1, 1))))
        self.tells(False, is_ring, near, (True, ((0, 1), (1, 1))))
        self.tells(False, is_ring, near, (False, ((1, 1), (0, 1))))

    def test_what_is_no_way(self):
        for clock in range(3):
            for wrong in NO_WAYS:
                self.tells(False, is_ring, ROADS, (clock, wrong))
            for wrong in NO_STEPS:
                self.tells(False, is_ring, ROADS, (clock, (wrong,)))
                self.tells(False, is_ring, ROADS, (clock, ((2, 1), (3, 1), wrong)))
                self.tells(False, is_ring, ROADS, (clock, (wrong, (2, 1), (3, 1))))
                self.tells(False, is_ring, ROADS, (clock, (wrong, (3, 1))))

    def test_what_is_no_such_tuple(self):
        clock, way = ring = (0, ((2, 1), (3, 1)))
        for wrong in NO_PARTS + [
            [clock, way], (clock,), (way,), way, (clock, way, way), (clock, way, None), (clock,) + way,
            (ring,), [ring],
            {clock: way}, (way, clock), (clock, list(way)), (clock, (way,)), (clock, (list(way[0]), way[1])),
            (ring, way),
        ]:
            self.tells(False, is_ring, ROADS, wrong)

    def test_by_name(self):
        self.tells(True, is_ring, thing=(0, ((2, 1), (3, 1))), tellings=ROADS)

    def test_no_row_keeps_all_tellings_of_a_ring(self):
        worths = [(top, 2) if top % 2 else (top // 2, 1) for top in range(-12, 13)]
        for one, two in product(worths, repeat=2):
            row = ((0, 1), one, two, (0, 1), (0, 1), (0, 1))
            self.assertIsNotNone(first_broken(ROADS, row))


class Refusals(Case):
    def test_what_are_no_tellings(self):
        for wrong in NO_TELLINGS:
            self.refuses(NoTellings, first_broken, wrong, ROW)
            self.refuses(NoTellings, way_of, wrong, 0, ())
            self.refuses(NoTellings, way_of, wrong, 0, ((0, 1),))
            self.refuses(NoTellings, is_ring, wrong, (0, ((0, 1),)))
            self.refuses(NoTellings, is_ring, wrong, None)
            self.refuses(NoTellings, is_ring, thing=(), tellings=wrong)

    def test_what_is_no_row(self):
        for wrong in NO_ROWS:
            for tellings in ((), (TELLING,), (TELLING, (0, 1, (9, 1), None))):
                self.refuses(NoRow, first_broken, tellings, wrong)
            self.refuses(NoRow, first_broken, row=wrong, tellings=())

    def test_what_is_no_clock_s_number(self):
        for wrong in NO_NUMBERS:
            self.refuses(NoNumber, way_of, ROADS, wrong, ())
            self.refuses(NoNumber, way_of, ROADS, wrong, ((0, 1),))
            self.refuses(NoNumber, way_of, ROADS, wrong, ((0, -1),))
            self.refuses(NoNumber, way_of, (), wrong, None)
            self.refuses(NoNumber, way_of, thing=[], clock=wrong, tellings=ROADS)

    def test_what_stands_further_to_the_left_is_refused_first(self):
        self.refuses(NoTellings, first_broken, None, None)
        self.refuses(NoTellings, first_broken, [], ROW[:5])
        self.refuses(NoTellings, way_of, None, None, None)
        self.refuses(NoTellings, way_of, [], 6, ())
        self.refuses(NoTellings, first_broken, row=None, tellings=None)
        self.refuses(NoTellings, way_of, thing=None, clock=None, tellings=None)
        for wrong in NO_NUMBERS:
            self.refuses(NoTellings, way_of, SIXTEEN + (TELLING,), wrong, ())

    def test_anything_may_be_asked_for_a_way_or_a_ring(self):
        for thing in NO_PARTS + NO_TELLING + NO_ROWS + NO_STEPS:
            if thing != ():
                self.tells(None, way_of, ROADS, 3, thing)
            self.tells(False, is_ring, ROADS, thing)


class WhatIsTold(Case):
    def test_what_was_told_is_handed_in_again_however_long(self):
        far = (1, 1)
        for _ in range(120):
            far = times(far, (LONG, 7 ** 40))
        tellings = ((0, 1, None, far), (1, 2, less((0, 1), far), far), (2, 0, None, less((0, 1), added(far, far))))
        self.assertIs(are_tellings(tellings), True)
        end, length = way_of(tellings, 0, ((0, 1), (1, 1)))
        self.assertTrue((end, length) == (2, added(far, far)))
        self.assertIs(is_ring(tellings, (0, ((0, 1), (1, 1), (2, 1)))), False)
        self.assertIs(is_telling((0, 1, far, less(far, (1, 1)))), False)
        row = ((0, 1), far, length, (0, 1), (0, 1), (0, 1))
        self.assertIsNone(first_broken(tellings, row))
        self.assertEqual(first_broken(tellings, row[:1] + (length,) + row[2:]), 0)
        self.refuses(NoRow, first_broken, tellings, (far,) + row[1:])


class Interface(unittest.TestCase):
    def test_defined_in_this_file(self):
        for call in (is_telling, are_tellings, first_broken, way_of, is_ring):
            self.assertEqual(call.__module__, "gunclocks.tellings")
