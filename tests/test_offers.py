"""0.2, 0.3 and 5.1 to 5.3, as far as they speak of gunclocks/offers.py."""

import unittest
from itertools import product
from random import Random

from gunclocks.errors import Apart, NoNumber, NoPart, NoTelling, NoTellings
from gunclocks.offers import best_offer, binding, needless, reason_for, reason_holds, worst_of
from gunclocks.parts import added, less, times
from gunclocks.stretches import stretch_of
from tests.reckoning import (
    all_due_stretches, as_part, do_agree, due_best, due_stretch, due_worst, has_due_reason, is_due_free, is_due_reason,
    many_tellings, part_from, rising_numbers, some_tellings, without,
)
from tests.support import (
    DEEP, LONG, NO_ERRORS, NO_NUMBERS, NO_OFFERS, NO_PARTS, NO_ROWS, NO_TELLING, NO_TELLINGS, NO_WATCHED, SIXTEEN,
    TELLING, WIDE_TEXT, Case, kinds,
)

WATCHED = [numbers for numbers in rising_numbers(6) if numbers and 0 not in numbers]
ERRING = [1, 2, 3, 4, 5]
NO_ERRING = NO_NUMBERS + [0]
# The clock 1 is 2 wide, 2 is 3 wide; 3 has no high; 4 and 5 have nothing.
ROADS = (
    (0, 1, (1, 1), (3, 1)),
    (1, 2, (0, 1), (1, 1)),
    (0, 2, (1, 1), (9, 1)),
    (0, 3, (-1, 2), None),
)
AROUND = ((0, 1, (1, 1), None), (1, 2, (1, 1), None), (2, 0, (1, 1), None))
APARTS = [
    AROUND, ROADS + ((1, 0, (0, 1), None),), ((3, 4, None, (-1, LONG)), (3, 4, (0, 1), None)), AROUND + SIXTEEN[:7],
]
CHANCE = many_tellings(51, 60, 10)
AGREED = [(), (TELLING,), ROADS, ROADS[:1] * 10, SIXTEEN[:10]] + [told for told in CHANCE if do_agree(told)]
QUARRELS = APARTS + [told for told in CHANCE if not do_agree(told)]
ELEVEN = SIXTEEN[:11]
WIDTHS = [None, (0, 1), (-1, 1), (1, 2), (2, 1), (3, 1), (5, 2), (LONG, 1), (-LONG, 1), (1, LONG)]


def many_offers(seed, count):
    """So many questions: tellings that agree, offers and watched clocks."""
    chance = Random(seed)
    found = []
    while len(found) < count:
        tellings = chance.choice(AGREED)
        offers = some_tellings(chance, chance.randint(1, 6), 6, 4, 3, chance.choice((0, 2, 6)))
        found.append((tellings, offers, chance.choice(WATCHED)))
    return found


def narrow_offers(seed, count):
    """Likewise, of tellings that leave each clock both ends: so most offers help."""
    chance = Random(seed)
    found = []
    while len(found) < count:
        tellings = tuple([(0, clock, (-9, 1), as_part(part_from(chance, 3) + 4)) for clock in ERRING])
        offers = some_tellings(chance, chance.randint(1, 6), 6, 5, 6, 3)
        found.append((tellings, offers, chance.choice(WATCHED)))
    return found


OFFERS = many_offers(52, 150) + narrow_offers(53, 60)


class WorstOf(Case):
    def test_ordinary(self):
        self.tells((2, 1), worst_of, ROADS, (1,))
        self.tells((3, 1), worst_of, ROADS, (2,))
        self.tells((3, 1), worst_of, ROADS, (1, 2))
        self.tells((1, 1), worst_of, (TELLING,), (1,))

    def test_none_where_an_end_lacks(self):
        for clocks in WATCHED:
            if set(clocks) & {3, 4, 5}:
                self.tells(None, worst_of, ROADS, clocks)
            self.tells(None, worst_of, (), clocks)
        self.tells(None, worst_of, ((0, 1, (1, 1), None),), (1,))
        self.tells(None, worst_of, ((0, 1, None, (1, 1)),), (1,))

    def test_nought_where_the_ends_meet(self):
        self.tells((0, 1), worst_of, ((0, 1, (1, 2), (1, 2)),), (1,))
        self.tells((0, 1), worst_of, ((0, 1, (1, 2), None), (1, 0, (-1, 2), None)), (1,))

    def test_by_chance(self):
        for tellings in AGREED:
            for clocks in WATCHED:
                if worst_of(tellings, clocks) != due_worst(tellings, clocks):
                    self.tells(due_worst(tellings, clocks), worst_of, tellings, clocks)
            self.ask(worst_of, tellings, WATCHED[-1])

    def test_of_sixteen_too(self):
        tellings = tuple([(0, 1 + at % 5, (at, 1), (20 + 2 * at, 1)) for at in range(16)])
        for clocks in WATCHED:
            self.tells(due_worst(tellings, clocks), worst_of, tellings, clocks)

    def test_by_name(self):
        self.tells((3, 1), worst_of, clocks=(1, 2), tellings=ROADS)


def due_binding(tellings, clock):
    due = due_stretch(tellings, clock, 0)
    return tuple([
        number for number in range(len(tellings)) if due_stretch(without(tellings, number), clock, 0) != due
    ])


def due_needless(tellings):
    due = all_due_stretches(tellings)
    return tuple([number for number in range(len(tellings)) if all_due_stretches(without(tellings, number)) == due])


class Binding(Case):
    def test_ordinary(self):
        self.tells((0,), binding, ROADS, 1)
        self.tells((0, 1), binding, ROADS[:2] + ROADS[3:], 2)
        self.tells((0, 1), binding, ROADS, 2)
        self.tells((3,), binding, ROADS, 3)
        self.tells((), binding, ROADS, 4)
        self.tells((), binding, (), 1)

    def test_two_alike_bind_nothing(self):
        self.tells((), binding, (TELLING, TELLING), 1)
        self.tells((1,), binding, ((0, 1, (-1, 1), (1, 1)), TELLING), 1)
        # Each end is held by another one alone.
        self.tells((0, 1), binding, ((0, 1, (1, 2), (5, 1)), (0, 1, (0, 1), (1, 1))), 1)

    def test_by_chance(self):
        for tellings in AGREED[:60] + AGREED[-5:]:
            for clock in ERRING:
                self.tells(due_binding(tellings, clock), binding, tellings, clock)

    def test_of_sixteen_too(self):
        self.tells((0,), binding, SIXTEEN[:3] + SIXTEEN[3:4] * 13, 1)
        for tellings in (SIXTEEN, SIXTEEN[:3] + SIXTEEN[3:4] * 13):
            for clock in ERRING:
                self.tells(due_binding(tellings, clock), binding, tellings, clock)

    def test_by_name(self):
        self.tells((0, 1), binding, clock=2, tellings=ROADS)


class Needless(Case):
    def test_ordinary(self):
        self.tells((), needless, ROADS[:2])
        self.tells((2,), needless, ROADS[:2] + ((0, 2, (1, 2), (9, 1)),))
        self.tells((0, 1), needless, (TELLING, TELLING))
        self.tells((), needless, ())
        self.tells((), needless, (TELLING,))
        # Of clocks that nothing ties to the clock 0 no telling has a stretch to change.
        self.tells((0, 1), needless, ((3, 4, (0, 1), (1, 1)), (4, 5, None, (1, 1))))

    def test_by_chance(self):
        for tellings in AGREED:
            self.tells(due_needless(tellings), needless, tellings)

    def test_each_gone_alone_all_stretches_stay(self):
        for tellings in AGREED[:30]:
            due = [stretch_of(tellings, clock) for clock in ERRING]
            for number in needless(tellings):
                self.assertEqual([stretch_of(without(tellings, number), clock) for clock in ERRING], due)

    def test_of_sixteen_too(self):
        # Each of these stands there four times.
        self.tells(tuple(range(16)), needless, SIXTEEN)
        tellings = SIXTEEN[:3] + SIXTEEN[3:4] * 13
        self.tells(due_needless(tellings), needless, tellings)

    def test_by_name(self):
        self.tells((0, 1), needless, tellings=(TELLING, TELLING))


class BestOffer(Case):
    def test_ordinary(self):
        offers = ((0, 1, (2, 1), None), (0, 1, None, (3, 2)), (0, 1, (5, 2), (9, 1)))
        self.tells((1, (1, 2)), best_offer, ROADS, offers[:2], (1,))
        self.tells((1, (1, 2)), best_offer, ROADS, offers, (1,))
        self.tells((1, (3, 2)), best_offer, ROADS, offers, (1, 2))
        self.tells((0, (1, 1)), best_offer, (), (TELLING,), (1,))

    def test_of_several_the_first(self):
        offers = ((0, 1, (5, 2), None), (0, 1, None, (3, 2)), (1, 0, (-3, 2), None))
        for first, second, third in product(offers, repeat=3):
            self.tells((0, (1, 2)), best_offer, ROADS, (first, second, third), (1,))
        self.tells((1, (1, 2)), best_offer, ROADS, (ROADS[0],) + offers, (1,))

    def test_none_helps(self):
        self.tells(None, best_offer, (), (TELLING,), (2,))
        self.tells(None, best_offer, ROADS, (TELLING, (0, 1, (4, 1), None)), (1,))
        self.tells(None, best_offer, ROADS, ((0, 3, (0, 1), None), (0, 4, (0, 1), (1, 1))), (3,))
        self.tells((1, (0, 1)), best_offer, ROADS, (TELLING, (0, 3, (0, 1), (0, 1)), (0, 3, None, (0, 1))), (3,))

    def test_an_offer_that_brings_nothing_helps_where_no_end_lacks(self):
        self.tells((0, (2, 1)), best_offer, ROADS, (ROADS[0], (4, 5, (0, 1), None)), (1,))
        self.tells((0, (2, 1)), best_offer, ROADS, ((4, 5, (0, 1), None), ROADS[0]), (1,))

    def test_by_chance(self):
        helped = 0
        for tellings, offers, clocks in OFFERS:
            due = due_best(tellings, offers, clocks)
            self.tells(due, best_offer, tellings, offers, clocks)
            helped += due is not None
        self.assertGreater(helped, 50)
        self.assertGreater(len(OFFERS) - helped, 50)

    def test_one_to_six_offers(self):
        for many in range(1, 7):
            self.tells((0, (1, 1)), best_offer, (), (TELLING,) * many, (1,))
        self.refuses(NoTellings, best_offer, (), (), (1,))
        self.refuses(NoTellings, best_offer, (), (TELLING,) * 7, (1,))

    def test_by_name(self):
        self.tells((0, (1, 1)), best_offer, clocks=(1,), offers=(TELLING,), tellings=())


class ReasonFor(Case):
    def look_at(self, tellings, offer, clocks, *width):
        worth = width[0] if width else None
        reason = self.ask(reason_for, tellings, offer, clocks, *width)
        if not has_due_reason(tellings, offer, clocks, worth):
            self.assertIsNone(reason, (tellings, offer, clocks, worth))
        else:
            self.assertTrue(is_due_reason(tellings, offer, clocks, worth, reason), (tellings, offer, clocks, worth))
            self.assertIs(reason_holds(tellings, offer, clocks, worth, reason), True)
        return reason

    def test_ordinary(self):
        kind, ring = self.look_at(ROADS, TELLING, (2,))
        self.assertEqual(kind, "ring")
        self.assertEqual(self.look_at(ROADS, (0, 3, (0, 1), None), (1, 3))[:3], ("free", 3, "high"))
        self.assertEqual(self.look_at((), (0, 1, None, (0, 1)), (1,))[:3], ("free", 1, "low"))
        self.assertIsNone(self.look_at(ROADS, (0, 1, (2, 1), None), (1, 2)))
        kind, clock, row, other = self.look_at(ROADS, (0, 1, (2, 1), None), (1, 2), (2, 1))
        self.assertEqual((kind, clock, row[2], other[2]), ("wide", 2, (2, 1), (4, 1)))
        self.assertIsNone(self.look_at(ROADS, (0, 1, (2, 1), None), (1, 2), (5, 2)))

    def test_the_width_itself(self):
        for width, due in (((1, 1), True), ((LONG, LONG - 1), False), ((LONG - 1, LONG), True), ((0, 1), True)):
            reason = self.look_at((), TELLING, (1,), width)
            self.assertIs(reason is not None, due)

    def test_a_width_of_nought_or_below(self):
        for width in ((0, 1), (-1, 2), (-LONG, 1)):
            reason = self.look_at((), (0, 1, (1, 1), (1, 1)), (1,), width)
            self.assertEqual(reason[:2], ("wide", 1))
        self.assertIsNone(self.look_at((), (0, 1, (1, 1), (1, 1)), (1,), (1, LONG)))

    def test_by_chance(self):
        none = 0
        for tellings, offers, clocks in OFFERS:
            for offer, width in zip(offers, WIDTHS):
                none += self.look_at(tellings, offer, clocks, width) is None
            none += self.look_at(tellings, offers[-1], clocks) is None
        self.assertGreater(none, 100)

    def test_at_the_very_width(self):
        for tellings, offers, clocks in OFFERS[150:]:
            best = best_offer(tellings, offers, clocks)
            if best is not None:
                number, width = best
                for offer in offers:
                    self.assertIsNotNone(self.look_at(tellings, offer, clocks, width))
                self.assertIsNone(self.look_at(tellings, offers[number], clocks, added(width, (1, LONG))))

    def test_the_width_is_none_where_it_is_left_out(self):
        for tellings, offers, clocks in OFFERS[:20]:
            due = reason_for(tellings, offers[0], clocks, None)
            self.tells(due, reason_for, tellings, offers[0], clocks)

    def test_by_name(self):
        due = reason_for(ROADS, TELLING, (1,), (1, 1))
        self.tells(due, reason_for, width=(1, 1), clocks=(1,), offer=TELLING, tellings=ROADS)
        due = reason_for(ROADS, TELLING, (1,))
        self.tells(due, reason_for, clocks=(1,), offer=TELLING, tellings=ROADS)


# With this offer behind ROADS the clock 1 lies from 2 to 3, 2 from 2 to 4; 3 still has no high.
OFFER = (0, 1, (2, 1), None)
LOW = ((0, 1), (2, 1), (2, 1), (0, 1), (9, 1), (-9, 1))
HIGH = ((0, 1), (3, 1), (4, 1), (-1, 2), (0, 1), (0, 1))
WIDE = ("wide", 2, LOW, HIGH)
FREE = ("free", 3, "high", (3,))
QUARREL = (0, 1, (4, 1), None)
RING = ("ring", (0, ((0, 1), (4, -1))))


class ReasonHolds(Case):
    def holds(self, due, tellings, offer, clocks, width, reason):
        self.assertEqual(is_due_reason(tellings, offer, clocks, width, reason), due)
        self.tells(due, reason_holds, tellings, offer, clocks, width, reason)

    def test_rings(self):
        for width in WIDTHS:
            self.holds(True, ROADS, QUARREL, (1,), width, RING)
            self.holds(True, ROADS, QUARREL, (5,), width, ("ring", (1, ((4, -1), (0, 1)))))
            self.holds(True, ROADS, QUARREL, (1,), width, ("ring", (0, RING[1][1] * 30)))
            self.tells(False, reason_holds, ROADS, QUARREL, (1,), width, ("ring", (0, RING[1][1] * 31)))
            self.holds(False, ROADS, OFFER, (1,), width, RING)
            self.holds(False, ROADS, QUARREL, (1,), width, ("ring", (1, RING[1][1])))
            self.holds(False, ROADS, QUARREL, (1,), width, ("ring", (0, ())))
            self.holds(False, ROADS, QUARREL, (1,), width, ("ring", (0, ((0, 1), (0, -1)))))

    def test_clocks_without_an_end(self):
        for width in WIDTHS:
            self.holds(True, ROADS, OFFER, (3,), width, FREE)
            self.holds(True, ROADS, OFFER, (1, 3), width, ("free", 3, "high", (3, 4)))
            self.holds(False, ROADS, OFFER, (1, 2), width, FREE)
            self.holds(False, ROADS, OFFER, (3,), width, ("free", 3, "low", (3,)))
            self.holds(False, ROADS, OFFER, (3,), width, ("free", 3, "high", (4,)))
            self.holds(False, ROADS, OFFER, (3,), width, ("free", 3, "high", ()))
            self.holds(False, ROADS, OFFER, (3,), width, ("free", 3, "high", (1, 3)))
            self.holds(True, ROADS, OFFER, (4,), width, ("free", 4, "low", (4,)))

    def test_whether_or_not_they_agree(self):
        for width in WIDTHS:
            self.holds(True, ROADS, QUARREL, (1, 3), width, FREE)
            self.holds(False, ROADS, QUARREL, (1, 3), width, ("free", 1, "high", (1,)))
            # The offer itself doesn't bind this end.
            self.holds(True, (), (0, 1, (4, 1), None), (1,), width, ("free", 1, "high", (1,)))
            self.holds(False, (), (0, 1, (4, 1), None), (1,), width, ("free", 1, "low", (1,)))

    def test_all_tuples_of_clocks(self):
        chance = Random(54)
        for tellings, offers, clocks in OFFERS[:25]:
            clock, side = chance.choice(clocks), chance.choice(["high", "low"])
            for some in rising_numbers(6):
                due = is_due_free(tellings + offers[:1], clock, some, side)
                self.tells(due, reason_holds, tellings, offers[0], clocks, None, ("free", clock, side, some))

    def test_rows_that_lie_so_wide(self):
        self.holds(True, ROADS, OFFER, (2,), (2, 1), WIDE)
        self.holds(True, ROADS, OFFER, (1, 2), (1, 1), WIDE)
        self.holds(True, ROADS, OFFER, (1, 2), (1, 1), ("wide", 1, LOW, HIGH))
        self.holds(False, ROADS, OFFER, (1, 2), (2, 1), ("wide", 1, LOW, HIGH))
        self.holds(False, ROADS, OFFER, (2,), (2 * LONG - 1, LONG - 1), WIDE)
        self.holds(True, ROADS, OFFER, (2,), (2 * LONG - 1, LONG), WIDE)
        self.holds(False, ROADS, OFFER, (2,), None, WIDE)
        self.holds(False, ROADS, OFFER, (1,), (1, 1), WIDE)
        # An end lacks, but these two rows show as much.
        self.holds(True, ROADS, OFFER, (3,), (1, 2), ("wide", 3, HIGH, LOW))
        self.holds(False, ROADS, OFFER, (3,), (1, 1), ("wide", 3, HIGH, LOW))

    def test_the_other_row_less_the_first(self):
        self.holds(False, ROADS, OFFER, (2,), (2, 1), ("wide", 2, HIGH, LOW))
        self.holds(False, ROADS, OFFER, (2,), (0, 1), ("wide", 2, HIGH, LOW))
        self.holds(True, ROADS, OFFER, (2,), (-2, 1), ("wide", 2, HIGH, LOW))
        self.holds(False, ROADS, OFFER, (2,), (-1, 1), ("wide", 2, HIGH, LOW))
        self.holds(True, ROADS, OFFER, (2,), (0, 1), ("wide", 2, HIGH, HIGH))
        self.holds(False, ROADS, OFFER, (2,), (1, LONG), ("wide", 2, HIGH, HIGH))

    def test_rows_that_keep_all(self):
        broken = [LOW[:1] + ((1, 1),) + LOW[2:], LOW[:2] + ((9, 2),) + LOW[3:], LOW[:3] + ((-1, 1),) + LOW[4:]]
        for row in broken:
            for width in ((-9, 1), (0, 1)):
                self.holds(False, ROADS, OFFER, (2,), width, ("wide", 2, row, HIGH))
                self.holds(False, ROADS, OFFER, (2,), width, ("wide", 2, LOW, row))
                self.holds(False, ROADS, OFFER, (2,), width, ("wide", 2, row, row))
        # The offer is not kept.
        self.holds(False, ROADS, QUARREL, (2,), (-9, 1), WIDE)
        self.holds(True, ROADS, TELLING[:2] + ((5, 2), None), (2,), (-9, 1), ("wide", 2, HIGH, HIGH))
        self.holds(False, ROADS, TELLING[:2] + ((5, 2), None), (2,), (-9, 1), ("wide", 2, LOW, HIGH))

    def test_reasons_told_for_another_question(self):
        told = []
        for tellings, offers, clocks in OFFERS[::9]:
            for width in (None, (1, 1)):
                told.append((tellings, offers[0], clocks, width, reason_for(tellings, offers[0], clocks, width)))
        reasons = [each[4] for each in told if each[4] is not None and each[4][0] != "ring"]
        for tellings, offer, clocks, width, _ in told:
            for reason in reasons:
                due = is_due_reason(tellings, offer, clocks, width, reason)
                self.tells(due, reason_holds, tellings, offer, clocks, width, reason)

    def no_reasons(self, *things):
        for thing in things:
            self.tells(False, reason_holds, ROADS, OFFER, (2, 3), (2, 1), thing)
            self.tells(False, reason_holds, ROADS, QUARREL, (2, 3), (2, 1), thing)

    def test_what_is_no_reason_by_its_form(self):
        self.no_reasons(*NO_PARTS, *NO_ROWS[:30], "ring", "free", "wide", WIDE_TEXT, DEEP, RING[1], RING[1][1])
        for reason in (WIDE, FREE, RING):
            self.no_reasons(
                list(reason), (reason,), [reason], reason[:1], reason[:-1], reason + (None,), reason[1:], {0: reason},
                (reason[0].upper(),) + reason[1:], (reason[0] + " ",) + reason[1:], ("",) + reason[1:],
                (None,) + reason[1:], (0,) + reason[1:], ([reason[0]],) + reason[1:], ((reason[0],),) + reason[1:],
                (reason[0], reason[1:]), ("narrow",) + reason[1:], (reason, reason), reason + reason,
            )
        self.no_reasons(("free",) + WIDE[1:], ("wide",) + FREE[1:], ("ring",) + WIDE[1:], ("ring",) + FREE[1:])
        self.no_reasons(("wide", RING[1]), ("free", RING[1]), ("ring", RING[1], RING[1], None))

    def test_what_is_no_watched_clock(self):
        for wrong in NO_NUMBERS + [0, 1, 4, 5, (2, 3)]:
            self.no_reasons(WIDE[:1] + (wrong,) + WIDE[2:], FREE[:1] + (wrong,) + FREE[2:])
        for wrong in (True, "1", (1,), [1], None):
            free = ("free", wrong, "high", (1,))
            self.tells(False, reason_holds, (), (2, 3, (0, 1), None), (1,), None, free)
        self.tells(True, reason_holds, (), (2, 3, (0, 1), None), (1,), None, ("free", 1, "high", (1,)))

    def test_what_is_no_side_and_no_clocks(self):
        for wrong in NO_PARTS + ["High", "LOW", "low ", "up", ("high",), ["high"]]:
            self.no_reasons(FREE[:2] + (wrong,) + FREE[3:])
            self.tells(False, reason_holds, (), (2, 3, (0, 1), None), (1,), None, ("free", 1, wrong, (1,)))
        for wrong in NO_PARTS + [[3], (3, 3), (4, 3), (3, 6), (-1, 3), (0, 3), ("3",), ((3,),), {3: 3}, 3, (3, None)]:
            if kinds(wrong) != kinds((3,)):
                self.no_reasons(FREE[:3] + (wrong,))
        for wrong in ((True,), [1], (1, True), (True, 2)):
            self.tells(False, reason_holds, (), (2, 3, (0, 1), None), (1,), None, ("free", 1, "high", wrong))

    def test_what_is_no_ring_and_no_row(self):
        rings = [(True, RING[1][1]), list(RING[1]), (0, list(RING[1][1])), (0, (RING[1],)), (6, RING[1][1])]
        for wrong in NO_PARTS + NO_ROWS[:30] + rings:
            self.tells(False, reason_holds, ROADS, QUARREL, (1,), None, ("ring", wrong))
        for wrong in NO_ROWS:
            for width in ((2, 1), (-LONG, 1)):
                self.tells(False, reason_holds, ROADS, OFFER, (2,), width, WIDE[:2] + (wrong, HIGH))
                self.tells(False, reason_holds, ROADS, OFFER, (2,), width, WIDE[:2] + (LOW, wrong))

    def test_by_name(self):
        self.tells(True, reason_holds, thing=WIDE, width=(2, 1), clocks=(2,), offer=OFFER, tellings=ROADS)
        self.tells(True, reason_holds, thing=RING, width=None, clocks=(2,), offer=QUARREL, tellings=ROADS)


def asked(tellings=ROADS, offer=OFFER, clocks=(2,), width=(1, 1), thing=WIDE):
    """A call of reason_for and one of reason_holds with the same things."""
    return [(reason_for, (tellings, offer, clocks, width)), (reason_holds, (tellings, offer, clocks, width, thing))]


class Refusals(Case):
    def refused(self, kind, **handed):
        for call, things in asked(**handed):
            self.refuses(kind, call, *things)

    def test_what_are_no_tellings(self):
        for wrong in NO_TELLINGS:
            self.refuses(NoTellings, worst_of, wrong, (1,))
            self.refuses(NoTellings, worst_of, wrong, ())
            self.refuses(NoTellings, binding, wrong, 1)
            self.refuses(NoTellings, binding, wrong, None)
            self.refuses(NoTellings, needless, wrong)
            self.refuses(NoTellings, best_offer, wrong, (TELLING,), (1,))
            self.refuses(NoTellings, best_offer, wrong, (), ())
            self.refused(NoTellings, tellings=wrong)
            self.refused(NoTellings, tellings=wrong, offer=None, clocks=None, width=0)

    def test_what_are_no_offers(self):
        for wrong in NO_OFFERS:
            for tellings in (ROADS, AROUND, ELEVEN):
                self.refuses(NoTellings, best_offer, tellings, wrong, (1,))
            self.refuses(NoTellings, best_offer, ROADS, wrong, ())

    def test_what_is_no_telling(self):
        for wrong in NO_TELLING:
            self.refused(NoTelling, offer=wrong)
            self.refused(NoTelling, offer=wrong, clocks=None, width=0, tellings=AROUND)
            self.refused(NoTelling, offer=wrong, tellings=ELEVEN)
            self.refuses(NoTelling, reason_for, ROADS, wrong, (1,))
        for offers in ((), (TELLING,), [TELLING]):
            self.refused(NoTelling, offer=offers)

    def test_ten_tellings_at_most(self):
        for many in range(11, 17):
            for tellings in (SIXTEEN[:many], AROUND + SIXTEEN[3:many]):
                self.too_many(many, 10, best_offer, tellings, (TELLING,), (1,))
                self.too_many(many, 10, best_offer, tellings, (TELLING,), ())
                for call, things in asked(tellings=tellings) + asked(tellings=tellings, clocks=None, width=0):
                    self.too_many(many, 10, call, *things)
                self.ask(worst_of, SIXTEEN[:many], (1,))
                self.ask(binding, SIXTEEN[:many], 1)
                self.ask(needless, SIXTEEN[:many])
        self.ask(best_offer, SIXTEEN[:10], (TELLING,) * 6, (1,))
        self.ask(reason_for, SIXTEEN[:10], TELLING, (1,))
        self.ask(reason_holds, SIXTEEN[:10], TELLING, (1,), None, None)

    def test_what_are_no_watched_clocks(self):
        for wrong in NO_WATCHED:
            for tellings in (ROADS, AROUND):
                self.refuses(NoNumber, worst_of, tellings, wrong)
                self.refuses(NoNumber, best_offer, tellings, (TELLING,), wrong)
                self.refused(NoNumber, tellings=tellings, clocks=wrong)
                self.refused(NoNumber, tellings=tellings, clocks=wrong, width=0)

    def test_what_is_no_clock_from_one_on(self):
        for wrong in NO_ERRING:
            self.refuses(NoNumber, binding, ROADS, wrong)
            self.refuses(NoNumber, binding, AROUND, wrong)

    def test_what_is_no_width(self):
        for wrong in NO_ERRORS:
            self.refused(NoPart, width=wrong)
            self.refused(NoPart, width=wrong, tellings=AROUND)
        self.refuses(NoPart, reason_holds, ROADS, OFFER, (2,), 0, None)

    def test_tellings_that_do_not_agree(self):
        for tellings in QUARRELS[:60]:
            for clocks in WATCHED[::5]:
                self.refuses(Apart, worst_of, tellings, clocks)
                self.refuses(Apart, best_offer, tellings, (TELLING,), clocks)
                self.refused(Apart, tellings=tellings, clocks=clocks)
                self.refused(Apart, tellings=tellings, clocks=clocks, width=None, thing=None)
            for clock in ERRING:
                self.refuses(Apart, binding, tellings, clock)
            self.refuses(Apart, needless, tellings)

    def test_what_stands_further_to_the_left_is_refused_first(self):
        self.refuses(NoTellings, worst_of, None, None)
        self.refuses(NoTellings, binding, clock=None, tellings=[])
        self.refuses(NoTellings, best_offer, AROUND, None, None)
        self.refuses(NoTellings, best_offer, ELEVEN, None, None)
        self.refuses(NoTelling, reason_for, ELEVEN, None, None, 0)
        self.too_many(11, 10, reason_for, ELEVEN, TELLING, None, 0)
        self.too_many(11, 10, reason_holds, ELEVEN, TELLING, None, 0, None)
        self.refuses(NoNumber, reason_for, AROUND, TELLING, (), 0)
        self.refuses(NoPart, reason_for, AROUND, TELLING, (1,), 0)
        self.refuses(Apart, reason_for, AROUND, TELLING, (1,), None)

    def test_anything_may_be_asked_for_a_reason(self):
        for thing in NO_PARTS + NO_ROWS + NO_TELLINGS[:40]:
            self.tells(False, reason_holds, ROADS, OFFER, (1, 2), (1, 1), thing)


class WhatIsTold(Case):
    def test_what_was_told_is_handed_in_again_however_long(self):
        far = (1, 1)
        for _ in range(60):
            far = times(far, (LONG, 7 ** 40))
        tellings = ((0, 1, (0, 1), far), (1, 2, less((0, 1), far), far))
        width = self.ask(worst_of, tellings, (1, 2))
        self.assertTrue(width == due_worst(tellings, (1, 2)) == times((3, 1), far))
        self.assertTrue(best_offer(tellings, (tellings[0],), (1, 2)) == (0, width))
        reason = reason_for(tellings, tellings[0], (1, 2), width)
        self.assertIs(reason_holds(tellings, tellings[0], (1, 2), width, reason), True)
        self.assertIsNone(reason_for(tellings, tellings[0], (1, 2), added(width, (1, LONG))))

    def test_the_best_offer_is_no_better_than_itself(self):
        for tellings, offers, clocks in OFFERS[100:]:
            best = best_offer(tellings, offers, clocks)
            if best is not None:
                told = tellings + (offers[best[0]],)
                self.assertEqual(worst_of(told, clocks), best[1])


class Interface(unittest.TestCase):
    def test_defined_in_this_file(self):
        for call in (worst_of, binding, needless, best_offer, reason_for, reason_holds):
            self.assertEqual(call.__module__, "gunclocks.offers")
