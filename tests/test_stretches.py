"""0.2, 0.3 and 3.4 to 3.6, as far as they speak of gunclocks/stretches.py."""

import unittest
from itertools import product

from gunclocks.errors import Apart, NoNumber, NoTellings
from gunclocks.parts import added, less, part_of, times
from gunclocks.stretches import agree, paper_holds, ring_of, stretch_of, stretch_paper
from gunclocks.tellings import first_broken, is_ring, way_of
from tests.reckoning import (
    do_agree, due_stretch, is_due_free, is_due_ring, keeps_all, many_tellings, rising_numbers, way_along,
)
from tests.support import (
    DEEP, LONG, NO_NUMBERS, NO_PARTS, NO_ROWS, NO_TELLINGS, SIXTEEN, TELLING, WIDE_TEXT, Case, kinds,
)

# 1 lies from 1 to 2, 2 from 1 to 5/2 above that; 3 has no high, 4 no low; 5 is tied to 3 alone.
ROADS = (
    (0, 1, (1, 1), (2, 1)),
    (1, 2, (1, 1), (5, 2)),
    (0, 2, (5, 2), None),
    (0, 3, (-1, 2), None),
    (4, 0, (-3, 1), None),
    (3, 5, (1, 1), (1, 1)),
)
ENDS = {
    0: ((0, 1), (0, 1)), 1: ((1, 1), (2, 1)), 2: ((5, 2), (9, 2)), 3: ((-1, 2), None), 4: (None, (3, 1)),
    5: ((1, 2), None),
}
AROUND = (
    (0, 1, (1, 1), None), (1, 2, (1, 1), None), (2, 0, (1, 1), None),
)
# By each other two tellings of these can't be; the last ones meet in one point.
POINTS = (
    (0, 1, (1, 1), (2, 1)), (1, 0, (-5, 2), (-2, 1)), (0, 1, (5, 2), None), (0, 1, None, (2, 1)),
)
QUARRELS = [
    ((0, 1, (1, 1), (2, 1)), (0, 1, (3, 1), None)), ((0, 1, (1, 1), (2, 1)), (1, 0, (0, 1), None)), AROUND,
    ((3, 4, None, (-1, LONG)), (3, 4, (0, 1), None)), ROADS + ((5, 3, (0, 1), None),), POINTS[:3], POINTS[2:],
    SIXTEEN[:12] + ((0, 1, (0, 1), (0, 1)),) + AROUND,
    ((0, 1, (0, 1), (0, 1)), (1, 2, (0, 1), (0, 1)), (2, 3, (0, 1), (0, 1)), (3, 4, (0, 1), (0, 1)),
     (4, 5, (0, 1), (0, 1)), (5, 0, (1, LONG), None)),
    ((5, 4, None, (1, 1)), (4, 3, None, (1, 1)), (3, 2, None, (1, 1)), (2, 1, None, (1, 1)), (1, 0, None, (1, 1)),
     (0, 5, None, (-5 * LONG - 1, LONG))),
]
AGREED = [
    (), (TELLING,), ROADS, POINTS[:2], POINTS[1:3], POINTS[:2] + POINTS[3:], AROUND[:2], AROUND[1:],
    ((3, 4, None, (0, 1)), (3, 4, (0, 1), None)),
    ((0, 1, (1, 3), (1, 3)), (1, 2, (1, 3), (1, 3)), (2, 0, (-2, 3), (-2, 3))),
    ((0, 1, (0, 1), (0, 1)), (1, 2, (0, 1), (0, 1)), (2, 0, (0, 1), (0, 1)), (2, 3, (0, 1), (0, 1))) * 4,
    ((0, 1, (1, LONG), (1, LONG - 1)), (0, 1, None, (2, LONG)), (1, 0, None, (-1, LONG))),
    ((0, 1, None, (1, 1)), (1, 2, None, (1, 1)), (2, 3, None, (1, 1)), (3, 4, None, (1, 1)), (4, 5, None, (1, 1)),
     (5, 0, None, (-5, 1))),
    ((5, 4, None, (1, 1)), (4, 3, None, (1, 1)), (3, 2, None, (1, 1)), (2, 1, None, (1, 1)), (1, 0, None, (1, 1)),
     (0, 5, None, (-5, 1))),
    ((1, 2, (-1, 1), (1, 1)), (2, 3, (-1, 1), (1, 1)), (3, 1, (-1, 1), (1, 1)), (4, 5, (7, 1), None)),
]
CHANCE = many_tellings(34, 120, 16)
CHANCE_AGREED = [tellings for tellings in CHANCE if do_agree(tellings)]
CHANCE_QUARRELS = [tellings for tellings in CHANCE if not do_agree(tellings)]
RISING = [kinds(numbers) for numbers in rising_numbers(6)]
ERRING = [1, 2, 3, 4, 5]
NO_ERRING = NO_NUMBERS + [0]


class Agree(Case):
    def test_ordinary(self):
        for tellings in AGREED:
            self.tells(True, agree, tellings)
        for tellings in QUARRELS:
            self.tells(False, agree, tellings)

    def test_ends_that_meet(self):
        for high, low in product([(-1, 2), (0, 1), (2, 5), (1, 2), (1, LONG), (1, LONG - 1)], repeat=2):
            due = less(high, low)[0] >= 0
            self.tells(due, agree, ((2, 3, None, high), (2, 3, low, None)))
            self.tells(due, agree, ((2, 3, None, high), (3, 2, None, less((0, 1), low))))

    def test_a_bound_that_is_none_bounds_nothing(self):
        self.tells(True, agree, ((0, 1, (5, 1), None), (1, 0, (-7, 1), None), (1, 2, None, (0, 1))))
        self.tells(True, agree, AROUND[:2] + ((2, 0, None, (1, 1)),))

    def test_by_chance(self):
        self.assertGreater(len(CHANCE_AGREED), 100)
        self.assertGreater(len(CHANCE_QUARRELS), 100)
        for tellings in CHANCE:
            self.tells(do_agree(tellings), agree, tellings)

    def test_by_name(self):
        self.tells(True, agree, tellings=())
        self.tells(False, agree, tellings=AROUND)


class RingOf(Case):
    def test_none_where_all_agree(self):
        for tellings in AGREED + CHANCE_AGREED:
            self.tells(None, ring_of, tellings)

    def test_some_ring(self):
        for tellings in QUARRELS + CHANCE_QUARRELS:
            ring = self.ask(ring_of, tellings)
            self.assertTrue(is_due_ring(tellings, ring), (tellings, ring))
            self.assertTrue(is_ring(tellings, ring))

    def test_of_all_pairs_and_threes_of_clocks(self):
        for one, two, three in product(range(6), repeat=3):
            if len({one, two, three}) == 3:
                around = ((one, two, None, (1, 1)), (two, three, None, (1, 1)), (three, one, None, (-2, 1)))
                self.tells(None, ring_of, around)
                quarrel = around + ((two, one, (0, 1), (1, 3)),)
                self.assertTrue(is_due_ring(quarrel, self.ask(ring_of, quarrel)))

    def test_by_name(self):
        self.tells(None, ring_of, tellings=ROADS)


class StretchOf(Case):
    def test_ordinary(self):
        for clock, due in ENDS.items():
            self.tells(due, stretch_of, ROADS, clock)
            self.tells(due, stretch_of, ROADS, clock, 0)
        self.tells(((1, 1), (5, 2)), stretch_of, ROADS, 2, 1)
        self.tells(((-5, 2), (-1, 1)), stretch_of, ROADS, 1, 2)
        self.tells(((1, 1), (1, 1)), stretch_of, ROADS, 5, 3)
        self.tells((None, (7, 2)), stretch_of, ROADS, 4, 3)
        self.tells(((-7, 2), None), stretch_of, ROADS, 3, 4)
        self.tells(((-5, 1), None), stretch_of, ROADS, 3, 2)

    def test_the_sign(self):
        self.tells(((1, 2), (3, 1)), stretch_of, ((0, 1, (1, 2), (3, 1)),), 1)
        self.tells(((-3, 1), (-1, 2)), stretch_of, ((1, 0, (1, 2), (3, 1)),), 1)
        self.tells(((-3, 1), (-1, 2)), stretch_of, ((0, 1, (1, 2), (3, 1)),), 0, 1)
        self.tells(((1, 2), None), stretch_of, ((4, 5, (1, 2), None),), 5, 4)
        self.tells((None, (-1, 2)), stretch_of, ((4, 5, (1, 2), None),), 4, 5)

    def test_no_bound(self):
        for clock, other in product(range(6), repeat=2):
            due = ((0, 1), (0, 1)) if clock == other else (None, None)
            self.tells(due, stretch_of, (), clock, other)

    def test_one_clock(self):
        for tellings in AGREED + CHANCE_AGREED[:50]:
            for clock in range(6):
                self.tells(((0, 1), (0, 1)), stretch_of, tellings, clock, clock)

    def test_the_other_is_nought_where_it_is_left_out(self):
        for clock in range(6):
            self.tells(self.ask(stretch_of, ROADS, clock, 0), stretch_of, ROADS, clock)
            self.tells(self.ask(stretch_of, ROADS, clock, 0), stretch_of, clock=clock, tellings=ROADS)

    def test_by_chance(self):
        for tellings in AGREED + CHANCE_AGREED:
            for clock, other in product(range(6), repeat=2):
                due = due_stretch(tellings, clock, other)
                if stretch_of(tellings, clock, other) != due:
                    self.tells(due, stretch_of, tellings, clock, other)
        for clock in range(6):
            self.tells(due_stretch(CHANCE_AGREED[0], clock, 0), stretch_of, CHANCE_AGREED[0], clock)

    def test_a_way_of_all_clocks(self):
        chain = tuple([(at, at + 1, (-1, 3), (1, 2)) for at in range(5)])
        self.tells(((-5, 3), (5, 2)), stretch_of, chain, 5)
        self.tells(((-5, 2), (5, 3)), stretch_of, chain, 0, 5)
        self.tells(((-5, 3), (5, 2)), stretch_of, chain[::-1], 5)

    def test_long_ones(self):
        self.tells(((1, LONG), (1, LONG - 1)), stretch_of, ((0, 1, (1, LONG), (1, LONG - 1)),), 1)
        near = ((0, 1, (1, LONG), (1, LONG - 1)), (1, 2, (-LONG, LONG - 1), (LONG, 1)))
        self.tells(due_stretch(near, 2, 0), stretch_of, near, 2)

    def test_by_name(self):
        self.tells(((-5, 2), (-1, 1)), stretch_of, other=2, clock=1, tellings=ROADS)


def due_free(tellings, clock, some, side):
    """Whether some is as 3.6 tells it where the clock lacks this end."""
    return kinds(some) in RISING and is_due_free(tellings, clock, some, side)


def due_row(tellings, clock, error, row):
    return row[0] == (0, 1) and row[clock] == error and keeps_all(tellings, row)


def due_paper(tellings, clock, paper):
    """Whether this is a paper; rows in it are rows."""
    down, up, least, most = paper
    low, high = due_stretch(tellings, clock, 0)
    if high is None:
        fine = up is None and due_free(tellings, clock, most, "high")
    else:
        fine = way_along(tellings, 0, up) == (clock, high) and due_row(tellings, clock, high, most)
    if low is None:
        return fine and down is None and due_free(tellings, clock, least, "low")
    turned = (-low[0], low[1])
    return fine and way_along(tellings, clock, down) == (0, turned) and due_row(tellings, clock, low, least)


class StretchPaper(Case):
    def test_some_paper(self):
        for tellings in AGREED + CHANCE_AGREED:
            for clock in ERRING:
                paper = stretch_paper(tellings, clock)
                self.assertTrue(due_paper(tellings, clock, paper), (tellings, clock, paper))
                self.assertIs(paper_holds(tellings, clock, paper), True)
                self.assertEqual((type(paper), len(paper)), (tuple, 4))
        for clock in ERRING:
            self.ask(stretch_paper, ROADS, clock)

    def test_ways_and_rows(self):
        for tellings in (ROADS, POINTS[:2]):
            low, high = stretch_of(tellings, 1)
            down, up, least, most = self.ask(stretch_paper, tellings, 1)
            self.assertEqual(way_of(tellings, 0, up), (1, high))
            self.assertEqual(way_of(tellings, 1, down), (0, less((0, 1), low)))
            self.assertEqual((least[1], most[1]), (low, high))
            self.assertIsNone(first_broken(tellings, least))
            self.assertIsNone(first_broken(tellings, most))

    def test_ends_that_lack(self):
        down, up, least, most = self.ask(stretch_paper, ROADS, 3)
        self.assertEqual((up, due_free(ROADS, 3, most, "high")), (None, True))
        self.assertEqual(way_of(ROADS, 3, down), (0, (1, 2)))
        self.assertEqual(least[3], (-1, 2))
        down, up, least, most = self.ask(stretch_paper, ROADS, 4)
        self.assertEqual((down, due_free(ROADS, 4, least, "low")), (None, True))
        self.assertEqual(way_of(ROADS, 0, up), (4, (3, 1)))
        self.assertEqual(most[4], (3, 1))

    def test_by_name(self):
        self.assertEqual(stretch_paper(clock=2, tellings=ROADS), stretch_paper(ROADS, 2))


FREE = ((0, 1, None, (2, 1)), (2, 3, (1, 1), None), (3, 4, None, (1, 1)), (1, 5, (-1, 1), (1, 1)))
TIES = (
    (1, 2, None, (1, 1)), (2, 3, (1, 1), None), (4, 3, None, (0, 1)), (0, 4, (1, 1), None), (5, 0, (1, 2), None),
)
# Of these the clock 1 has both ends, 3 to 5 have none.
SMALL = ((0, 1, (-1, 2), (1, 2)), (1, 0, (-1, 2), (1, 1)), (1, 2, (0, 1), None))
LESS = ((0, 1), (-1, 2), (3, 1), (0, 1), (0, 1), (9, 1))
MORE = ((0, 1), (1, 2), (1, 2), (0, 1), (-7, 3), (0, 1))
SMALL_PAPER = (((0, -1),), ((0, 1),), LESS, MORE)


class PaperHolds(Case):
    def holds(self, due, tellings, clock, paper):
        self.assertEqual(due_paper(tellings, clock, paper), due)
        self.tells(due, paper_holds, tellings, clock, paper)

    def put_at(self, at, thing):
        return SMALL_PAPER[:at] + (thing,) + SMALL_PAPER[at + 1:]

    def test_other_papers_than_the_one_told(self):
        self.holds(True, SMALL, 1, SMALL_PAPER)
        self.holds(True, SMALL, 1, self.put_at(1, ((1, -1),)))
        self.holds(False, SMALL, 1, self.put_at(1, ((0, 1), (0, -1), (0, 1))))
        self.holds(True, SMALL, 1, self.put_at(2, LESS[:5] + ((-9, 1),)))

    def test_ways_of_sixty_steps_at_most(self):
        zero = ((0, 1, (1, 1), (1, 1)),)
        row = ((0, 1), (1, 1), (0, 1), (0, 1), (0, 1), (0, 1))
        for many in range(33):
            up, down = ((0, 1), (0, -1)) * many + ((0, 1),), ((0, -1), (0, 1)) * many + ((0, -1),)
            self.tells(many < 30, paper_holds, zero, 1, (down, ((0, 1),), row, row))
            self.tells(many < 30, paper_holds, zero, 1, (((0, -1),), up, row, row))

    def test_ways_that_are_as_long_only(self):
        self.holds(False, SMALL, 1, self.put_at(0, ((1, 1),)))
        self.holds(False, SMALL, 1, self.put_at(0, ((0, 1),)))
        self.holds(False, SMALL, 1, self.put_at(1, ((0, -1),)))
        self.holds(False, SMALL, 1, self.put_at(0, ()))
        self.holds(False, SMALL, 1, self.put_at(1, ()))
        self.holds(False, SMALL, 1, self.put_at(1, ((3, 1),)))

    def test_rows_that_have_the_end_and_keep_all(self):
        self.holds(False, SMALL, 1, self.put_at(2, MORE))
        self.holds(False, SMALL, 1, self.put_at(3, LESS))
        self.holds(False, SMALL, 1, self.put_at(2, LESS[:1] + ((0, 1),) + LESS[2:]))
        self.holds(False, SMALL, 1, self.put_at(3, MORE[:1] + ((0, 1),) + MORE[2:]))
        self.holds(False, SMALL, 1, self.put_at(2, LESS[:2] + ((-1, 1),) + LESS[3:]))
        self.holds(False, SMALL, 1, self.put_at(3, MORE[:2] + ((0, 1),) + MORE[3:]))

    def test_one_end_cannot_stand_for_the_other(self):
        down, up, least, most = SMALL_PAPER
        for paper in ((up, down, least, most), (down, up, most, least), (up, down, most, least)):
            self.tells(False, paper_holds, SMALL, 1, paper)

    def test_none_just_where_the_end_lacks(self):
        self.tells(False, paper_holds, SMALL, 1, self.put_at(0, None))
        self.tells(False, paper_holds, SMALL, 1, self.put_at(1, None))
        self.tells(False, paper_holds, SMALL, 1, self.put_at(2, None))
        self.tells(False, paper_holds, SMALL, 1, self.put_at(3, None))
        self.tells(False, paper_holds, SMALL, 1, (((0, -1),), None, LESS, (1, 2)))
        self.tells(False, paper_holds, SMALL, 1, (None, ((0, 1),), (1, 2), MORE))
        for wrong in ((), ((0, 1),), False, 0, "", ((2, 1),)):
            self.tells(False, paper_holds, SMALL, 3, (wrong, None, (3,), (3,)))
            self.tells(False, paper_holds, SMALL, 3, (None, wrong, (3,), (3,)))
        self.tells(True, paper_holds, SMALL, 3, (None, None, (3,), (3,)))

    def test_all_tuples_of_clocks(self):
        for tellings in (FREE, ROADS, SMALL, (), TIES, TIES[1:], TIES[:2]):
            for clock in ERRING:
                self.look_at_clocks(tellings, clock)

    def look_at_clocks(self, tellings, clock):
        down, up, least, most = stretch_paper(tellings, clock)
        for some in rising_numbers(6):
            if up is None:
                due = due_free(tellings, clock, some, "high")
                self.tells(due, paper_holds, tellings, clock, (down, up, least, some))
            if down is None:
                due = due_free(tellings, clock, some, "low")
                self.tells(due, paper_holds, tellings, clock, (down, up, some, most))

    def test_what_is_no_rising_tuple_of_clocks(self):
        for wrong in NO_PARTS + [
            [1, 2], (2, 1), (1, 1), (1, 2, 2), (1, 3, 2), (0, 1), (0, 1, 2), (-1, 1), (1, 6), (1, LONG), (True, 2),
            (True,), (1, None), (1, "2"), ((1,),), ((1, 2),), {1: 2}, {1: 1}, "1", 1, (1, 2, 3, 4, 5, 6), (1, 1, 1),
        ]:
            due = due_free((), 1, wrong, "high")
            self.tells(due, paper_holds, (), 1, (None, None, (1,), wrong))
            self.tells(due, paper_holds, (), 1, (None, None, wrong, (1,)))
        self.tells(True, paper_holds, (), 1, (None, None, (1,), (1, 2)))
        self.tells(True, paper_holds, (), 1, (None, None, (1, 2, 3, 4, 5), (1,)))
        self.tells(False, paper_holds, (), 2, (None, None, (1,), (2,)))

    def test_what_is_no_row(self):
        for wrong in NO_ROWS:
            self.tells(False, paper_holds, SMALL, 1, self.put_at(2, wrong))
            self.tells(False, paper_holds, SMALL, 1, self.put_at(3, wrong))
        self.tells(False, paper_holds, SMALL, 1, self.put_at(2, ((1, 1), (1, 2)) + LESS[2:]))
        self.tells(False, paper_holds, SMALL, 1, self.put_at(3, ((1, 1), (3, 2)) + MORE[2:]))

    def test_what_is_no_way(self):
        for wrong in NO_PARTS + [
            [(0, 1)], (0, 1), ([0, 1],), ((0, True),), ((False, 1),), ((0, 1, 1),), ((0,),), (((0, 1),),),
            ((0, 2),), ((-3, 1),), ((LONG, 1),), {0: 1}, ((0, -1), (0, 1)),
        ]:
            self.tells(False, paper_holds, SMALL, 1, self.put_at(0, wrong))
            if wrong != SMALL_PAPER[1]:
                self.tells(False, paper_holds, SMALL, 1, self.put_at(1, wrong))

    def test_what_is_no_tuple_of_four(self):
        for wrong in NO_PARTS + NO_ROWS + [
            list(SMALL_PAPER), SMALL_PAPER[:3], SMALL_PAPER[1:], SMALL_PAPER + (None,), SMALL_PAPER + (MORE,),
            (SMALL_PAPER,), [SMALL_PAPER], (SMALL_PAPER[:2], SMALL_PAPER[2:]), {0: SMALL_PAPER}, WIDE_TEXT, DEEP,
            (None,) * 4, (None, None, None), "abcd", [None] * 4,
        ]:
            self.tells(False, paper_holds, SMALL, 1, wrong)
            self.tells(False, paper_holds, SMALL, 3, wrong)

    def test_papers_of_another_clock_or_of_other_tellings(self):
        for clock, other in product(ERRING, repeat=2):
            paper = stretch_paper(ROADS, clock)
            self.holds(due_paper(ROADS, other, paper) if clock != other else True, ROADS, other, paper)
        for tellings, others in product(CHANCE_AGREED[:12], repeat=2):
            paper = stretch_paper(tellings, 2)
            self.holds(due_paper(others, 2, paper), others, 2, paper)

    def test_papers_with_one_place_exchanged(self):
        for tellings in CHANCE_AGREED[:60]:
            papers = [stretch_paper(tellings, clock) for clock in ERRING]
            for clock, other, at in product(ERRING, ERRING, range(4)):
                paper = papers[clock - 1][:at] + papers[other - 1][at:at + 1] + papers[clock - 1][at + 1:]
                low, high = due_stretch(tellings, clock, 0)
                # A row in the place of clocks, or clocks in that of a row, is a paper nowhere.
                rows = (isinstance(paper[2][0], tuple), isinstance(paper[3][0], tuple))
                due = rows == (low is not None, high is not None) and due_paper(tellings, clock, paper)
                self.tells(due, paper_holds, tellings, clock, paper)

    def test_by_name(self):
        self.tells(True, paper_holds, thing=SMALL_PAPER, clock=1, tellings=SMALL)


# Sixteen tellings that agree and tie all clocks to one another.
SIXTEEN_TIES = tuple([
    (at % 6, (at + 1 + at // 6) % 6 if (at + 1 + at // 6) % 6 != at % 6 else (at + 2) % 6, part_of(at - 20, 3),
     part_of(40 + at, 7)) for at in range(1, 17)
])
LEAST_TIES = ((0, 1), (-178, 21), (-14, 3), (-8, 3), (-50, 7), (-19, 3))
MOST_TIES = ((0, 1), (17, 3), (46, 7), (5, 3), (10, 3), (5, 1))
PAPER_TIES = (((11, -1),), ((14, -1),), LEAST_TIES, MOST_TIES)


class PaperOfSixteen(Case):
    def test_it_holds(self):
        self.tells(True, paper_holds, SIXTEEN_TIES, 3, PAPER_TIES)
        self.assertTrue(due_paper(SIXTEEN_TIES, 3, PAPER_TIES))

    def test_exchanged_it_does_not(self):
        down, up, least, most = PAPER_TIES
        for paper in ((up, down, least, most), (down, up, most, least), (up, down, most, least)):
            self.tells(False, paper_holds, SIXTEEN_TIES, 3, paper)
        for clock in (1, 2, 4, 5):
            self.tells(False, paper_holds, SIXTEEN_TIES, clock, PAPER_TIES)

    def test_with_a_part_of_a_row_made_otherwise(self):
        broken = 0
        for at, clock in product((2, 3), range(6)):
            row = PAPER_TIES[at]
            for worth in ((99, 1), (-99, 1), added(row[clock], (1, LONG)), less(row[clock], (1, LONG))):
                other = row[:clock] + (worth,) + row[clock + 1:]
                paper = PAPER_TIES[:at] + (other,) + PAPER_TIES[at + 1:]
                due = due_paper(SIXTEEN_TIES, 3, paper)
                self.tells(due, paper_holds, SIXTEEN_TIES, 3, paper)
                broken += clock not in (0, 3) and not due and first_broken(SIXTEEN_TIES, other) is not None
        self.assertGreater(broken, 15)

    def test_of_what_is_no_paper(self):
        for wrong in (None, (), PAPER_TIES[:3], list(PAPER_TIES), PAPER_TIES + (None,), (None,) * 4, True, "paper"):
            self.tells(False, paper_holds, SIXTEEN_TIES, 3, wrong)
        places = (None, (), ((0, 1),), ((16, 1),), ((11, 0),), True, ((-5, -1),), [(11, -1)])
        for at, wrong in product(range(4), places):
            paper = PAPER_TIES[:at] + (wrong,) + PAPER_TIES[at + 1:]
            self.tells(False, paper_holds, SIXTEEN_TIES, 3, paper)

    def test_refused_in_the_same_order_whatever_the_paper(self):
        apart = SIXTEEN_TIES[:15] + ((0, 3, (2, 1), None),)
        self.assertFalse(do_agree(apart))
        for paper in (PAPER_TIES, None, (), PAPER_TIES[:3], True, PAPER_TIES[::-1]):
            for wrong in (None, list(apart), apart + (TELLING,), apart[:15] + (None,), SIXTEEN_TIES + (TELLING,)):
                for clock in (3, 0, None, 6):
                    self.refuses(NoTellings, paper_holds, wrong, clock, paper)
            for clock in NO_ERRING:
                self.refuses(NoNumber, paper_holds, SIXTEEN_TIES, clock, paper)
                self.refuses(NoNumber, paper_holds, apart, clock, paper)
            for clock in ERRING:
                self.refuses(Apart, paper_holds, apart, clock, paper)


class Refusals(Case):
    def test_what_are_no_tellings(self):
        for wrong in NO_TELLINGS:
            self.refuses(NoTellings, agree, wrong)
            self.refuses(NoTellings, ring_of, wrong)
            self.refuses(NoTellings, stretch_of, wrong, 1)
            self.refuses(NoTellings, stretch_of, wrong, 1, 0)
            self.refuses(NoTellings, stretch_paper, wrong, 1)
            self.refuses(NoTellings, paper_holds, wrong, 1, SMALL_PAPER)
            self.refuses(NoTellings, paper_holds, thing=None, clock=None, tellings=wrong)

    def test_what_is_no_clock_s_number(self):
        for wrong in NO_NUMBERS:
            for tellings in ((), ROADS, AROUND):
                self.refuses(NoNumber, stretch_of, tellings, wrong)
                self.refuses(NoNumber, stretch_of, tellings, wrong, 0)
                self.refuses(NoNumber, stretch_of, tellings, wrong, None)
                self.refuses(NoNumber, stretch_of, tellings, 1, wrong)
                self.refuses(NoNumber, stretch_of, other=wrong, clock=1, tellings=tellings)

    def test_what_is_no_clock_from_one_on(self):
        for wrong in NO_ERRING:
            for tellings in ((), ROADS, AROUND):
                self.refuses(NoNumber, stretch_paper, tellings, wrong)
                self.refuses(NoNumber, paper_holds, tellings, wrong, SMALL_PAPER)
                self.refuses(NoNumber, paper_holds, tellings, wrong, None)

    def test_tellings_that_do_not_agree(self):
        for tellings in QUARRELS + CHANCE_QUARRELS[:30]:
            for clock in range(6):
                self.refuses(Apart, stretch_of, tellings, clock)
                self.refuses(Apart, stretch_of, tellings, clock, clock)
                self.refuses(Apart, stretch_of, tellings, 5, clock)
            for clock in ERRING:
                self.refuses(Apart, stretch_paper, tellings, clock)
                self.refuses(Apart, paper_holds, tellings, clock, SMALL_PAPER)
                self.refuses(Apart, paper_holds, tellings, clock, None)

    def test_what_stands_further_to_the_left_is_refused_first(self):
        self.refuses(NoTellings, stretch_of, None, None, None)
        self.refuses(NoTellings, stretch_paper, None, None)
        self.refuses(NoTellings, paper_holds, None, None, None)
        self.refuses(NoTellings, stretch_of, other=6, clock=6, tellings=list(AROUND))
        self.refuses(NoNumber, stretch_of, AROUND, 6, 0)
        self.refuses(NoNumber, stretch_of, AROUND, 0, 6)
        self.refuses(NoNumber, stretch_paper, AROUND, 0)
        self.refuses(NoNumber, paper_holds, AROUND, 0, SMALL_PAPER)

    def test_anything_may_be_asked_for_a_paper(self):
        for thing in NO_PARTS + NO_ROWS + NO_TELLINGS[:40]:
            self.tells(False, paper_holds, ROADS, 2, thing)


class WhatIsTold(Case):
    def test_what_was_told_is_handed_in_again_however_long(self):
        far = (1, 1)
        for _ in range(100):
            far = times(far, (LONG, 7 ** 40))
        back = less((0, 1), far)
        tellings = ((0, 1, None, far), (1, 2, back, far), (2, 3, (0, 1), far), (3, 0, back, None))
        self.assertIs(agree(tellings), True)
        self.assertTrue(stretch_of(tellings, 3) == due_stretch(tellings, 3, 0))
        self.assertIs(paper_holds(tellings, 2, stretch_paper(tellings, 2)), True)
        tellings = tellings + ((0, 3, added(far, far), None),)
        self.assertTrue(is_ring(tellings, ring_of(tellings)))
        self.refuses(Apart, stretch_of, tellings, 3)

    def test_stretches_told_bind_as_tellings(self):
        for tellings in CHANCE_AGREED[:40]:
            ends = [stretch_of(tellings, clock) for clock in ERRING]
            told = tuple([(0, clock, *end) for clock, end in zip(ERRING, ends) if end != (None, None)])
            self.assertEqual([stretch_of(told, clock) for clock in ERRING], ends)


class Interface(unittest.TestCase):
    def test_defined_in_this_file(self):
        for call in (agree, ring_of, stretch_of, stretch_paper, paper_holds):
            self.assertEqual(call.__module__, "gunclocks.stretches")
