"""0.2, 0.3 and 4.1 to 4.3, as far as they speak of gunclocks/lies.py."""

import unittest
from copy import deepcopy
from itertools import combinations, permutations, product

from gunclocks.errors import NoNumber, NoQuarrel, NoRow, NoTellings
from gunclocks.lies import (
    Quarrel, all_fewest, best_quarrel, blamed, cleared, fewest_false, is_false_set, kept_by, surely_false,
)
from gunclocks.parts import added, less, times
from gunclocks.stretches import agree, ring_of, stretch_paper
from gunclocks.tellings import is_ring
from tests.reckoning import false_sets, fewest, is_due_ring, keeps, many_tellings, most_rings, rising_numbers
from tests.support import (
    BALL, DEEP, LONG, NO_PARTS, NO_ROWS, NO_TELLINGS, ROW, SIXTEEN, TELLING, WIDE_TEXT, Case, kinds,
)

# Any two of the first three can't be; the fourth is kept beside each; of the last two again one is false.
CROWD = (
    (0, 1, (0, 1), (1, 1)), (0, 1, (2, 1), (3, 1)), (1, 0, (-5, 1), (-4, 1)), (0, 1, (-1, 1), (6, 1)),
    (3, 4, (1, 1), None), (4, 3, (0, 1), None),
)
AROUND = ((0, 1, (1, 1), None), (1, 2, (1, 1), None), (2, 0, (1, 1), None))
CASES = [
    (), (TELLING,), (TELLING,) * 10, CROWD, CROWD[:3], CROWD[3:], AROUND, AROUND + CROWD[:2], CROWD[4:] + AROUND,
    AROUND + AROUND, AROUND * 3, tuple([(0, 1, (at, 1), (at, 1)) for at in range(10)]),
    tuple([(0, 1, (at // 2, 1), (at // 2, 1)) for at in range(10)]),
    tuple([(one, other, (one * other, 1), (one * other, 1)) for one, other in combinations(range(5), 2)]),
    tuple([(at % 6, (at + 1) % 6, (at % 4, 1), (at % 4, 1)) for at in range(10)]),
    tuple([(at % 3, (at + 1) % 3, (at - 4, 7), (at - 4, 7)) for at in (0, 1, 2, 3, 5, 6, 7, 8, 9, 10)]),
    ((0, 1, None, (1, LONG)), (1, 0, None, (-1, LONG - 1)), (0, 1, None, (2, LONG))),
    tuple([(at, (at + 1) % 6, (0, 1), (0, 1)) for at in range(5)]) + ((5, 0, (1, LONG), None),) * 5,
    tuple([(at, at + 1, None, (-1, 1)) for at in range(5)]) + ((5, 0, None, (4, 1)), (5, 0, None, (5, 1))),
]
CHANCE = many_tellings(41, 25, 7)
ELEVEN = SIXTEEN[:11]


class IsFalseSet(Case):
    def test_ordinary(self):
        self.tells(True, is_false_set, CROWD, (0, 1, 4))
        self.tells(True, is_false_set, CROWD, (0, 1, 2, 3, 4, 5))
        self.tells(False, is_false_set, CROWD, (0, 1))
        self.tells(False, is_false_set, CROWD, (0, 3, 4))
        self.tells(False, is_false_set, CROWD, ())
        self.tells(True, is_false_set, CROWD[2:5], ())
        self.tells(True, is_false_set, (), ())
        self.tells(False, is_false_set, (), (0,))

    def test_all_rising_tuples(self):
        for tellings in CASES + CHANCE:
            if len(tellings) <= 7:
                due = false_sets(tellings)
                for numbers in rising_numbers(len(tellings) + 1):
                    self.tells(numbers in due, is_false_set, tellings, numbers)

    def test_of_sixteen_too(self):
        for many in range(10, 17):
            tellings = CROWD[:3] + SIXTEEN[:many - 3]
            self.tells(True, is_false_set, tellings, tuple(range(many)))
            self.tells(True, is_false_set, tellings, tuple(range(1, many)))
            self.tells(False, is_false_set, tellings, tuple(range(2, many)))
            self.tells(False, is_false_set, tellings, tuple(range(1, many + 1)))

    def test_what_is_no_rising_tuple_of_their_numbers(self):
        for wrong in NO_PARTS + [
            [0, 1, 4], (1, 0, 4), (0, 4, 1), (4, 1, 0), (0, 1, 1, 4), (0, 0, 1, 4), (0, 1, 4, 4), (0, 1, 4, 6),
            (-1, 0, 1, 4), (-6, 0, 1, 4), (0, 1, 4, LONG), (0, True, 4), (False, 1, 4), (False, True, 4), (0, 1, None),
            (None, 0, 1, 4), (0, 1, "4"), ((0, 1, 4),), ((0,), (1,), (4,)), (0, 1, (4,)), (0, [1], 4), "014",
            {0: 0, 1: 1, 4: 4}, [[0, 1, 4]], (TELLING,), CROWD, WIDE_TEXT, DEEP, ((0, 1), 4),
        ]:
            self.tells(False, is_false_set, CROWD, wrong)
        for wrong in ([], {}, None, "", 0, False, [()], ((),), (True,), (False,), (-1,), (1,)):
            self.tells(False, is_false_set, (TELLING,), wrong)
        self.tells(True, is_false_set, (TELLING,), ())
        self.tells(True, is_false_set, (TELLING,), (0,))

    def test_by_name(self):
        self.tells(True, is_false_set, thing=(0, 1, 4), tellings=CROWD)


class Fewest(Case):
    def test_ordinary(self):
        self.tells((0, 1, 4), fewest_false, CROWD)
        pairs = [(0, 1), (0, 2), (1, 2)]
        self.tells([(*pair, last) for pair in pairs for last in (4, 5)], all_fewest, CROWD)
        self.tells((), surely_false, CROWD)
        self.tells((4, 4, 4, 0, 3, 3), blamed, CROWD)

    def test_none_false(self):
        for tellings in ((), (TELLING,), (TELLING,) * 10, CROWD[2:5], SIXTEEN[:10]):
            self.assertTrue(agree(tellings))
            self.tells((), fewest_false, tellings)
            self.tells([()], all_fewest, tellings)
            self.tells((), surely_false, tellings)
            self.tells((0,) * len(tellings), blamed, tellings)

    def test_surely_false(self):
        tellings = (CROWD[3], (0, 1, (9, 1), None), CROWD[0])
        self.tells((1,), surely_false, tellings)
        self.tells((1,), fewest_false, tellings)
        self.tells((0, 1, 0), blamed, tellings)
        tellings = ((0, 1, (9, 1), None), CROWD[0], (3, 4, (9, 1), None), CROWD[0], (3, 4, None, (1, 1)), CROWD[5])
        self.tells((0, 2), surely_false, tellings)
        tellings = ((0, 1, (9, 1), None), CROWD[0], CROWD[4], CROWD[0], CROWD[5])
        self.tells((0,), surely_false, tellings)
        self.tells([(0, 2), (0, 4)], all_fewest, tellings)
        self.tells((2, 0, 1, 0, 1), blamed, tellings)

    def test_against_all_sets(self):
        for tellings in CASES + CHANCE:
            due = fewest(tellings)
            self.tells(due, all_fewest, tellings)
            self.tells(due[0], fewest_false, tellings)
            surely = [number for number in range(len(tellings)) if all([number in numbers for numbers in due])]
            self.tells(tuple(surely), surely_false, tellings)
            counts = [len([1 for numbers in due if number in numbers]) for number in range(len(tellings))]
            self.tells(tuple(counts), blamed, tellings)

    def test_against_one_another(self):
        for tellings in many_tellings(42, 60, 10):
            told = all_fewest(tellings)
            self.assertEqual(told, sorted(set(told)))
            self.assertEqual(fewest_false(tellings), told[0])
            for numbers in told:
                self.assertIs(is_false_set(tellings, numbers), True)
                for at in range(len(numbers)):
                    self.assertIs(is_false_set(tellings, numbers[:at] + numbers[at + 1:]), False)

    def test_long_ways_around(self):
        chain = tuple([(at, at + 1, None, (-1, 1)) for at in range(5)])
        self.tells([()], all_fewest, chain + ((5, 0, None, (5, 1)),))
        self.tells([(at,) for at in range(6)], all_fewest, chain + ((5, 0, None, (4, 1)),))
        self.tells([(at,) for at in range(6)], all_fewest, chain[::-1] + ((0, 5, (-4, 1), None),))

    def test_each_list_is_new(self):
        told = all_fewest(CROWD)
        told.clear()
        self.assertEqual(len(all_fewest(CROWD)), 6)

    def test_by_name(self):
        self.tells((0, 1, 4), fewest_false, tellings=CROWD)
        self.tells([(0,), (1,), (2,)], all_fewest, tellings=AROUND)
        self.tells((), surely_false, tellings=AROUND)
        self.tells((1, 1, 1), blamed, tellings=AROUND)


# Rings of CROWD: of 0 and 1, of 0 and 2, of 1 and 2, of 4 and 5.
RING = (0, ((0, 1), (1, -1)))
OTHER = (1, ((1, -1), (0, 1)))
CROSS = (0, ((0, 1), (2, 1)))
LAST = (3, ((5, -1), (4, -1)))
# There and back by 3 is 7 long, each time around -1.
LONG_RING = (0, ((3, 1), (3, -1)) + RING[1] * 8)
NO_RINGS = NO_PARTS + [
    (0, ()), (0, ((0, 1),)), (1, RING[1]), (0, ((1, 1), (0, -1))), (True, OTHER[1]), list(RING), (0, list(RING[1])),
    RING + (None,), (RING,), [RING], RING[1], (0, ((0, 1), (1, -1), (6, 1))), (0, ((0, 1), (1, True))), (RING, LAST),
    (0, ((0, 1), (1, -1)) * 31), {0: RING[1]}, (6, RING[1]), (0, ((0, 1), (0, -1))), WIDE_TEXT, DEEP,
]
NO_RING_LISTS = [
    True, False, 0, 1, "", "rings", (), (RING,), RING, (RING, LAST), {}, {0: RING}, {RING: RING}, DEEP, WIDE_TEXT,
    [[]], [()], [[RING]], [(RING,)], [RING, None], [None, RING], [RING, []], [RING, RING], [RING, OTHER],
    [RING, CROSS], [LAST, RING, CROSS], [CROSS, LAST, RING], [LAST, LAST], [RING, LAST, LAST], [RING, LAST, RING],
    [LONG_RING, RING], [LONG_RING, CROSS], [RING, (0, ((1, 1), (2, 1)))], [LAST, (0, ((1, 1), (2, 1))), CROSS],
    (RING[1],), [RING[1]], [list(RING)], (LAST, RING), [RING, LAST, None], [LAST, [RING]],
]


class QuarrelMade(Case):
    def test_of_rings(self):
        for rings in ([], [RING], [LAST], [RING, LAST], [LAST, OTHER], [CROSS, LAST], [LONG_RING, LAST]):
            quarrel = Quarrel(CROWD, rings)
            self.tells(rings, quarrel.all_rings)
            self.assertEqual(len(quarrel), len(rings))

    def test_none_where_they_are_not_handed_in(self):
        for tellings in ((), CROWD, SIXTEEN):
            made = [Quarrel(tellings), Quarrel(tellings, None), Quarrel(tellings, []), Quarrel(tellings=tellings)]
            for quarrel in made:
                self.tells([], quarrel.all_rings)
                self.tells((), quarrel.held)
                self.assertEqual(len(quarrel), 0)
                self.assertTrue(quarrel == Quarrel(tellings))

    def test_a_telling_more_than_once_on_one_ring(self):
        self.assertTrue(is_ring(CROWD, LONG_RING))
        self.tells((0, 1, 3), Quarrel(CROWD, [LONG_RING]).held)
        self.tells((0, 1, 3, 4, 5), Quarrel(CROWD, [LONG_RING, LAST]).held)
        twice = (0, RING[1] * 30)
        self.tells((0, 1), Quarrel(CROWD, [twice]).held)

    def test_what_is_no_such_list(self):
        for wrong in NO_RING_LISTS:
            self.refuses(NoQuarrel, Quarrel, CROWD, wrong)
        for wrong in NO_RINGS:
            self.refuses(NoQuarrel, Quarrel, CROWD, [wrong])
            self.refuses(NoQuarrel, Quarrel, CROWD, [LAST, wrong])
            self.refuses(NoQuarrel, Quarrel, CROWD, [wrong, LAST])
        self.refuses(NoQuarrel, Quarrel, rings=(), tellings=CROWD)
        self.refuses(NoQuarrel, Quarrel, CROWD[2:5], [RING])
        self.refuses(NoQuarrel, Quarrel, (), [RING])

    def test_no_tellings(self):
        for wrong in NO_TELLINGS:
            self.refuses(NoTellings, Quarrel, wrong)
            self.refuses(NoTellings, Quarrel, wrong, None)
            self.refuses(NoTellings, Quarrel, wrong, ())
            self.refuses(NoTellings, Quarrel, wrong, [RING])
        self.refuses(NoTellings, Quarrel, rings=[], tellings=None)

    def test_of_sixteen_tellings(self):
        tellings = CROWD + SIXTEEN[:10]
        self.tells([LAST, RING], Quarrel(tellings, [LAST, RING]).all_rings)

    def test_what_becomes_of_the_list_later(self):
        rings = [RING]
        quarrel = Quarrel(CROWD, rings)
        rings.append(LAST)
        self.tells([RING], quarrel.all_rings)
        rings.clear()
        self.assertEqual(len(quarrel), 1)
        quarrel.all_rings().clear()
        quarrel.all_rings().append(LAST)
        self.tells([RING], quarrel.all_rings)
        self.tells((0, 1), quarrel.held)

    def test_by_name(self):
        self.assertTrue(Quarrel(rings=[RING], tellings=CROWD) == Quarrel(CROWD, [RING]))


class QuarrelTells(Case):
    def test_in_the_order_told(self):
        self.tells([LAST, RING], Quarrel(CROWD, [LAST, RING]).all_rings)
        self.tells([RING, LAST], Quarrel(CROWD, [RING, LAST]).all_rings)

    def test_held(self):
        self.tells((0, 1), Quarrel(CROWD, [RING]).held)
        self.tells((0, 2), Quarrel(CROWD, [CROSS]).held)
        self.tells((4, 5), Quarrel(CROWD, [LAST]).held)
        self.tells((0, 2, 4, 5), Quarrel(CROWD, [LAST, CROSS]).held)

    def test_with_ring(self):
        quarrel = Quarrel(CROWD, [LAST])
        more = self.ask(quarrel.with_ring, RING)
        self.assertIs(type(more), Quarrel)
        self.tells([LAST, RING], more.all_rings)
        self.tells([LAST], quarrel.all_rings)
        self.assertTrue(more == Quarrel(CROWD, [LAST, RING]))
        self.tells([RING], Quarrel(CROWD).with_ring(ring=RING).all_rings)

    def test_with_ring_refused(self):
        for rings in ([], [LAST], [LAST, CROSS]):
            quarrel = Quarrel(CROWD, rings)
            for wrong in NO_RINGS:
                self.refuses(NoQuarrel, quarrel.with_ring, wrong)
            self.refuses(NoQuarrel, quarrel.with_ring, ring=[])
            self.assertTrue(quarrel == Quarrel(CROWD, rings))
        quarrel = Quarrel(CROWD, [RING])
        for wrong in (RING, OTHER, CROSS, LONG_RING):
            self.refuses(NoQuarrel, quarrel.with_ring, wrong)
        self.tells([RING], quarrel.all_rings)
        self.tells([RING, LAST], quarrel.with_ring(LAST).all_rings)


class QuarrelAlike(Case):
    def test_rings_in_whatever_order(self):
        tellings = tuple([(0, 1, (at, 1), (at, 1)) for at in range(8)])
        rings = [(0, ((at, 1), (at + 1, -1))) for at in (0, 2, 4, 6)]
        for order in permutations(rings):
            self.assertIs(Quarrel(tellings, list(order)) == Quarrel(tellings, rings), True)
            self.assertIs(Quarrel(tellings, list(order)) != Quarrel(tellings, rings), False)
            self.assertIs(Quarrel(tellings, list(order)[1:]) == Quarrel(tellings, rings), False)
            self.assertIs(Quarrel(tellings, list(order)[1:]) == Quarrel(tellings, rings[1:]), order[0] == rings[0])

    def test_rings_that_are_unlike(self):
        made = [Quarrel(CROWD, rings) for rings in ([], [RING], [OTHER], [CROSS], [LAST], [LAST, RING], [LAST, OTHER])]
        for (at, one), (place, other) in product(list(enumerate(made)), repeat=2):
            self.assertIs(one == other, at == place)
            self.assertIs(one != other, at != place)

    def test_tellings_that_are_unlike(self):
        self.assertIs(Quarrel(CROWD, [RING]) == Quarrel(CROWD[:5], [RING]), False)
        self.assertIs(Quarrel(()) == Quarrel((TELLING,)), False)
        self.assertIs(Quarrel(()) == Quarrel(()), True)
        self.assertIs(Quarrel(CROWD) == Quarrel(CROWD[::-1]), False)

    def test_to_nothing_else(self):
        for other in NO_PARTS + NO_RING_LISTS + [CROWD, [RING], BALL, Quarrel]:
            for quarrel in (Quarrel(CROWD), Quarrel(CROWD, [RING]), Quarrel(())):
                self.assertIs(quarrel == other, False)
                self.assertIs(other == quarrel, False)
                self.assertIs(quarrel != other, True)

    def test_asking_changes_nothing(self):
        quarrel = Quarrel(CROWD, [LAST, RING])
        before = deepcopy(quarrel)
        quarrel.held(), quarrel.all_rings(), repr(quarrel), len(quarrel), quarrel == Quarrel(CROWD, [RING, LAST])
        self.tells([LAST, RING], quarrel.all_rings)
        self.assertTrue(quarrel == before)

    def test_shown(self):
        for rings in ([], [RING], [LAST, RING]):
            self.assertEqual(repr(Quarrel(CROWD, rings)), f"Quarrel({len(rings)})")
            self.assertEqual(kinds(len(Quarrel(CROWD, rings))), kinds(len(rings)))


class BestQuarrel(Case):
    def look_at(self, tellings, many):
        quarrel = self.ask(best_quarrel, tellings)
        self.assertIs(type(quarrel), Quarrel)
        rings = quarrel.all_rings()
        held = []
        for ring in rings:
            self.assertTrue(is_due_ring(tellings, ring), (tellings, ring))
            held.append({number for number, _ in ring[1]})
        for one, other in combinations(held, 2):
            self.assertFalse(one & other)
        self.assertEqual(len(rings), many, tellings)
        self.assertEqual(quarrel.held(), tuple(sorted([number for numbers in held for number in numbers])))
        self.assertTrue(quarrel == Quarrel(tellings, rings))

    def test_ordinary(self):
        self.look_at((), 0)
        self.look_at((TELLING,) * 10, 0)
        self.look_at(CROWD, 2)
        self.look_at(AROUND, 1)
        self.look_at(AROUND * 3, 3)
        self.look_at(AROUND + CROWD[:2], 2)
        self.look_at(tuple([(0, 1, (at, 1), (at, 1)) for at in range(10)]), 5)

    def test_fewer_than_are_false(self):
        self.look_at(CROWD[:3], 1)
        self.assertEqual(len(fewest_false(CROWD[:3])), 2)

    def test_as_many_as_can_be(self):
        for tellings in CASES + CHANCE:
            self.look_at(tellings, most_rings(tellings))

    def test_no_greedy_choice_does(self):
        # The ring of 1 and 2 alone stands in the way of both others.
        row = [(0, 1, None, (0, 1)), (0, 1, (1, 1), (3, 1)), (0, 1, (2, 1), (2, 1)), (0, 1, (3, 1), (3, 1))]
        for order in permutations(row):
            self.look_at(order, most_rings(order))
        row = [(0, 1, None, (0, 1)), (0, 1, (1, 1), None), (1, 2, (0, 1), (0, 1)), (2, 3, None, (-1, 1)),
               (1, 3, (0, 1), None), (2, 0, (0, 1), None)]
        for order in list(permutations(row))[::24]:
            self.look_at(order, most_rings(order))

    def test_never_more_than_are_false(self):
        for tellings in many_tellings(43, 60, 10):
            quarrel = best_quarrel(tellings)
            self.assertLessEqual(len(quarrel), len(fewest_false(tellings)))
            self.assertIs(len(quarrel) == 0, ring_of(tellings) is None)

    def test_by_name(self):
        self.assertEqual(len(best_quarrel(tellings=CROWD)), 2)


class Cleared(Case):
    def test_ordinary(self):
        self.tells((CROWD[2], CROWD[3], CROWD[5]), cleared, CROWD, (0, 1, 4))
        self.tells((), cleared, CROWD, (0, 1, 2, 3, 4, 5))
        self.tells(CROWD[2:5], cleared, CROWD[2:5], ())
        self.tells((), cleared, (), ())

    def test_all_false_sets(self):
        for tellings in CASES[:7] + CHANCE[:20]:
            due = false_sets(tellings)
            for numbers in rising_numbers(len(tellings)):
                left = tuple([telling for number, telling in enumerate(tellings) if number not in numbers])
                if numbers in due:
                    self.tells(left, cleared, tellings, numbers)
                else:
                    self.refuses(NoNumber, cleared, tellings, numbers)

    def test_of_sixteen_too(self):
        tellings = CROWD[:2] + SIXTEEN[:14]
        self.tells(tellings[:1] + tellings[2:], cleared, tellings, (1,))
        self.refuses(NoNumber, cleared, tellings, (0,))

    def test_by_name(self):
        self.tells(AROUND[:2], cleared, lies=(2,), tellings=AROUND)


class KeptBy(Case):
    def test_ordinary(self):
        row = ((0, 1), (5, 2), (0, 1), (0, 1), (1, 1), (0, 1))
        self.tells((1, 3, 4), kept_by, CROWD, row)
        self.tells((), kept_by, (), row)
        self.tells(tuple(range(16)), kept_by, ((0, 1, (5, 2), (5, 2)),) * 16, row)
        self.tells((), kept_by, ((0, 1, (5, 1), None), (0, 1, None, (12, 5))), row)

    def test_against_fractions(self):
        worths = ((0, 1), (-1, 1), (5, 2))
        for one, two, three in product(worths, repeat=3):
            row = ((0, 1), one, two, three, (5, 1), (-1, 3))
            for tellings in CASES + CHANCE[:20]:
                due = [number for number, telling in enumerate(tellings) if keeps(telling, row)]
                self.tells(tuple(due), kept_by, tellings, row)

    def test_no_row_keeps_more_than_all_but_the_fewest_false(self):
        for tellings in CHANCE:
            lies = fewest_false(tellings)
            row = stretch_paper(cleared(tellings, lies), 1)[3]
            if isinstance(row[0], tuple):
                self.assertEqual(len(kept_by(tellings, row)), len(tellings) - len(lies))
            self.assertLessEqual(len(kept_by(tellings, ROW)), len(tellings) - len(lies))

    def test_by_name(self):
        self.tells((0,), kept_by, row=ROW, tellings=(TELLING,))


class Refusals(Case):
    def test_what_are_no_tellings(self):
        for wrong in NO_TELLINGS:
            for call in (fewest_false, all_fewest, surely_false, best_quarrel, blamed):
                self.refuses(NoTellings, call, wrong)
            self.refuses(NoTellings, is_false_set, wrong, ())
            self.refuses(NoTellings, is_false_set, wrong, None)
            self.refuses(NoTellings, cleared, wrong, ())
            self.refuses(NoTellings, cleared, wrong, None)
            self.refuses(NoTellings, kept_by, wrong, ROW)
            self.refuses(NoTellings, kept_by, wrong, None)

    def test_ten_tellings_at_most(self):
        for call in (fewest_false, all_fewest, surely_false, best_quarrel, blamed):
            for many in range(11, 17):
                for tellings in (SIXTEEN[:many], AROUND + SIXTEEN[3:many]):
                    self.too_many(many, 10, call, tellings)
                    self.too_many(many, 10, call, tellings=tellings)
            self.refuses(NoTellings, call, (TELLING,) * 17)
            self.refuses(NoTellings, call, ELEVEN + (None,))
            self.refuses(NoTellings, call, list(ELEVEN))
            self.ask(call, SIXTEEN[:10])

    def test_what_is_no_false_set(self):
        for wrong in NO_PARTS + NO_ROWS + NO_TELLINGS[:30] + [
            (0, 1), [0, 1, 4], (1, 0, 4), (0, 1, 1, 4), (0, 1, 4, 6), (-1, 0, 1, 4), (False, 1, 4), (0, True, 4), "014",
            (0, 1, None), ((0, 1, 4),), (0, 1, (4,)), {0: 0, 1: 1, 4: 4},
        ]:
            self.refuses(NoNumber, cleared, CROWD, wrong)
        for wrong in ([], {}, None, False, 0, "", [()], ((),), (1,), (-1,), (False,)):
            self.refuses(NoNumber, cleared, (TELLING,), wrong)
        self.refuses(NoNumber, cleared, lies=None, tellings=())

    def test_what_is_no_row(self):
        for wrong in NO_ROWS:
            self.refuses(NoRow, kept_by, (), wrong)
            self.refuses(NoRow, kept_by, CROWD, wrong)
            self.refuses(NoRow, kept_by, row=wrong, tellings=(TELLING,))

    def test_what_stands_further_to_the_left_is_refused_first(self):
        self.refuses(NoTellings, cleared, None, None)
        self.refuses(NoTellings, kept_by, None, None)
        self.refuses(NoTellings, is_false_set, None, None)
        self.refuses(NoTellings, Quarrel, None, ())
        self.refuses(NoTellings, kept_by, row=None, tellings=[])


class WhatIsTold(Case):
    def test_what_was_told_is_handed_in_again_however_long(self):
        far = (1, 1)
        for _ in range(60):
            far = times(far, (LONG, 7 ** 40))
        back = less((0, 1), far)
        tellings = ((0, 1, None, far), (1, 2, back, far), (2, 0, added(far, far), None), (0, 2, added(far, far), None))
        self.assertEqual(all_fewest(tellings), fewest(tellings))
        self.assertEqual(len(best_quarrel(tellings)), most_rings(tellings))

    def test_best_quarrel_is_made_of_again(self):
        quarrel = best_quarrel(CROWD)
        again = Quarrel(CROWD)
        for ring in quarrel.all_rings():
            again = again.with_ring(ring)
        self.assertTrue(again == quarrel)


class Interface(unittest.TestCase):
    def test_defined_in_this_file(self):
        for thing in (
            Quarrel, all_fewest, best_quarrel, blamed, cleared, fewest_false, is_false_set, kept_by, surely_false,
        ):
            self.assertEqual(thing.__module__, "gunclocks.lies")

    def test_methods_stand_in_their_class(self):
        for name in ("__init__", "all_rings", "held", "with_ring", "__len__", "__eq__", "__repr__"):
            self.assertIn(name, vars(Quarrel))
