"""0.2, 0.3 and 2.1 to 2.4, as far as they speak of gunclocks/signals.py."""

import unittest
from copy import deepcopy
from fractions import Fraction
from itertools import product

from gunclocks.errors import NoAir, NoNumber, NoPart, NoSignal
from gunclocks.parts import less, times
from gunclocks.signals import Air, Log, is_signal, lag_of, telling_by
from gunclocks.stretches import stretch_of
from gunclocks.tellings import are_tellings, is_telling
from tests.support import (
    BALL, GUN, LONG, NO_AIRS, NO_NUMBERS, NO_PARTS, NO_SIGNALS, PARTS, SIGNALS, WIRE, Case, kinds,
)

ABOVE = [(1, 1), (1, 2), (2, 3), (5, 12), (100, 7), (1, LONG), (LONG, 1), (LONG, LONG - 1), (2, 5)]
NOT_ABOVE = [(0, 1), (-1, 1), (-1, 2), (-1, LONG), (-LONG, 1)]
FARS = [(0, 1)] + ABOVE
AIR = Air((1, 5), (1, 3))
AIRS = [AIR, Air((1, 3)), Air((1, LONG), (LONG, 1)), Air((2, 5), (1, 2))]
MISSED = [signal for signal in SIGNALS if signal[4] is None]
HEARD = [signal for signal in SIGNALS if signal[4] is not None]


def as_part(worth):
    return (worth.numerator, worth.denominator)


def due_lag(signal, slow, fast):
    if signal[0] == "ball":
        return (Fraction(0), Fraction(0))
    if signal[0] == "gun":
        return (Fraction(*signal[5]) / fast, Fraction(*signal[5]) / slow)
    return (Fraction(*signal[5]), Fraction(*signal[6]))


def due_telling(signal, slow, fast):
    if signal[4] is None:
        return None
    least, most = due_lag(signal, slow, fast)
    later = Fraction(*signal[4]) - Fraction(*signal[3])
    return (signal[1], signal[2], as_part(later - most), as_part(later - least))


def bounds(air):
    """The bounds of an air of one mile: how far sound comes, told by its lag alone."""
    least, most = air.lag((1, 1))
    return (1 / Fraction(*most), 1 / Fraction(*least))


def log_of(signals, air=AIR):
    log = Log(air)
    for signal in signals:
        log.put(signal)
    return log


class AirMade(Case):
    def test_made_of_parts_above_nought(self):
        for slow, fast in product(ABOVE, repeat=2):
            if Fraction(*slow) <= Fraction(*fast):
                self.assertEqual(bounds(Air(slow, fast)), (Fraction(*slow), Fraction(*fast)))
            else:
                self.refuses(NoAir, Air, slow, fast)

    def test_fast_is_slow_where_it_is_not_handed_in(self):
        for slow in ABOVE:
            self.assertEqual(bounds(Air(slow)), (Fraction(*slow), Fraction(*slow)))
            self.assertEqual(bounds(Air(slow, None)), (Fraction(*slow), Fraction(*slow)))
            self.assertTrue(Air(slow) == Air(slow, slow) == Air(slow, None))

    def test_not_above_nought(self):
        for wrong in NOT_ABOVE:
            self.refuses(NoAir, Air, wrong)
            self.refuses(NoAir, Air, wrong, None)
            self.refuses(NoAir, Air, wrong, wrong)
            self.refuses(NoAir, Air, wrong, (1, 1))
            self.refuses(NoAir, Air, (1, LONG), wrong)

    def test_no_part(self):
        for wrong in NO_PARTS:
            self.refuses(NoPart, Air, wrong)
            self.refuses(NoPart, Air, wrong, (1, 1))
            self.refuses(NoPart, Air, wrong, (-1, 1))
            self.refuses(NoPart, Air, fast=None, slow=wrong)
        for wrong in NO_PARTS[1:]:
            self.refuses(NoPart, Air, (1, 1), wrong)
            self.refuses(NoPart, Air, (0, 1), wrong)
            self.refuses(NoPart, Air, (-1, 1), wrong)

    def test_by_name(self):
        self.assertTrue(Air(fast=(1, 3), slow=(1, 5)) == AIR)
        self.assertTrue(Air(slow=(1, 5)) == Air((1, 5)))


class Lag(Case):
    def test_ordinary(self):
        self.tells(((3, 1), (5, 1)), AIR.lag, (1, 1))
        self.tells(((3, 2), (5, 2)), AIR.lag, (1, 2))
        self.tells(((3, 1), (3, 1)), Air((1, 3)).lag, (1, 1))

    def test_nought_is_no_way(self):
        for air in AIRS:
            self.tells(((0, 1), (0, 1)), air.lag, (0, 1))

    def test_against_fractions(self):
        for slow, fast, far in product(ABOVE, ABOVE, FARS):
            if Fraction(*slow) <= Fraction(*fast):
                least, most = Fraction(*far) / Fraction(*fast), Fraction(*far) / Fraction(*slow)
                self.assertEqual(Air(slow, fast).lag(far), (as_part(least), as_part(most)))

    def test_refused(self):
        for wrong in NO_PARTS:
            self.refuses(NoPart, AIR.lag, wrong)
        for wrong in NOT_ABOVE[1:]:
            self.refuses(NoAir, AIR.lag, wrong)
        self.refuses(NoPart, AIR.lag, far=None)
        self.tells(((3, 1), (5, 1)), AIR.lag, (1, 1))

    def test_by_name(self):
        self.tells(((3, 1), (5, 1)), AIR.lag, far=(1, 1))


class AirAlike(Case):
    def test_just_where_both_parts_are_alike(self):
        made = [(slow, fast) for slow, fast in product(ABOVE, repeat=2) if Fraction(*slow) <= Fraction(*fast)]
        for one, other in product(made, repeat=2):
            self.assertIs(Air(*one) == Air(*other), one == other)
            self.assertIs(Air(*one) != Air(*other), one != other)

    def test_to_nothing_else(self):
        for other in NO_AIRS + [Log(AIR), ((1, 3), (1, 3)), Air]:
            for air in AIRS:
                self.assertIs(air == other, False)
                self.assertIs(other == air, False)
                self.assertIs(air != other, True)

    def test_shown(self):
        self.assertEqual(repr(AIR), "Air(1/5, 1/3)")
        self.assertEqual(repr(Air((1, 3))), "Air(1/3, 1/3)")
        self.assertEqual(repr(Air((2, 1), (7, 2))), "Air(2, 7/2)")
        self.assertEqual(repr(Air((2, 3), (12, 1))), "Air(2/3, 12)")
        self.assertEqual(str(AIR), "Air(1/5, 1/3)")


class IsSignal(Case):
    def test_signals(self):
        for signal in SIGNALS:
            self.tells(True, is_signal, signal)

    def test_none_of_them(self):
        for wrong in NO_SIGNALS:
            self.tells(False, is_signal, wrong)

    def test_all_pairs_of_clocks(self):
        for one, other in product(range(-1, 8), repeat=2):
            due = one != other and 0 <= one < 6 and 0 <= other < 6
            for signal in (BALL, GUN, WIRE):
                self.tells(due, is_signal, (signal[0], one, other) + signal[3:])

    def test_any_hours(self):
        for sent, came in product(PARTS, PARTS + [None]):
            for signal in (BALL, GUN, WIRE):
                self.tells(True, is_signal, signal[:3] + (sent, came) + signal[5:])

    def test_how_far(self):
        for far in PARTS:
            self.tells(far[0] >= 0, is_signal, GUN[:5] + (far,))

    def test_least_and_most(self):
        for least, most in product(PARTS + [(2, 5)], repeat=2):
            due = 0 <= Fraction(*least) <= Fraction(*most)
            self.tells(due, is_signal, WIRE[:5] + (least, most))

    def test_by_name(self):
        self.tells(True, is_signal, thing=BALL)
        self.tells(False, is_signal, thing=list(BALL))


class LagOf(Case):
    def test_ordinary(self):
        self.tells(((0, 1), (0, 1)), lag_of, BALL, AIR)
        self.tells(((3, 20), (1, 4)), lag_of, GUN, AIR)
        self.tells(((1, 6), (1, 2)), lag_of, WIRE, AIR)

    def test_against_fractions(self):
        for signal, air in product(SIGNALS, AIRS):
            least, most = due_lag(signal, *bounds(air))
            self.tells((as_part(least), as_part(most)), lag_of, signal, air)

    def test_of_a_missed_one_too(self):
        self.tells(((3, 20), (1, 4)), lag_of, GUN[:4] + (None, (1, 20)), AIR)

    def test_by_name(self):
        self.tells(((1, 6), (1, 2)), lag_of, air=AIR, signal=WIRE)


class TellingBy(Case):
    def test_ordinary(self):
        self.tells((0, 1, (3, 2), (3, 2)), telling_by, BALL, AIR)
        self.tells((2, 3, (5, 4), (27, 20)), telling_by, GUN, AIR)
        self.tells((4, 5, (1, 1), (4, 3)), telling_by, WIRE, AIR)
        self.tells((1, 0, (-1, 1), (-1, 1)), telling_by, ("ball", 1, 0, (2, 1), (1, 1)), AIR)

    def test_missed(self):
        for signal, air in product(MISSED, AIRS):
            self.tells(None, telling_by, signal, air)

    def test_against_fractions(self):
        for signal, air in product(SIGNALS, AIRS):
            self.tells(due_telling(signal, *bounds(air)), telling_by, signal, air)

    def test_it_is_a_telling(self):
        for signal, air in product(HEARD, AIRS):
            self.assertTrue(is_telling(telling_by(signal, air)))

    def test_by_name(self):
        self.tells((2, 3, (5, 4), (27, 20)), telling_by, air=AIR, signal=GUN)

    def test_what_was_told_is_handed_in_again_however_long(self):
        far = (1, 1)
        for _ in range(100):
            far = times(far, (LONG, 7 ** 40))
        signal = ("gun", 0, 1, less((0, 1), far), far, far)
        self.assertIs(is_signal(signal), True)
        self.assertTrue(telling_by(signal, Air((1, 1), far)) == (0, 1, far, less(times((2, 1), far), (1, 1))))


class Put(Case):
    def test_numbers_from_nought(self):
        log = Log(AIR)
        self.assertEqual(len(log), 0)
        for number, signal in enumerate(SIGNALS[:10]):
            told = log.put(signal)
            self.assertEqual(kinds(told), kinds(number))
            self.assertEqual(len(log), number + 1)

    def test_ten_at_most(self):
        log = log_of(SIGNALS[:10])
        for signal in SIGNALS:
            self.too_many(11, 10, log.put, signal)
        self.assertEqual(len(log), 10)
        self.assertTrue(log == log_of(SIGNALS[:10]))

    def test_the_same_signal_again(self):
        log = log_of([BALL] * 10)
        self.assertEqual(len(log), 10)
        self.too_many(11, 10, log.put, signal=BALL)

    def test_no_signal(self):
        for signals in ([], [BALL, GUN], SIGNALS[:10]):
            log = log_of(signals)
            for wrong in NO_SIGNALS:
                self.refuses(NoSignal, log.put, wrong)
            self.refuses(NoSignal, log.put, signal=None)
            self.assertEqual(len(log), len(signals))
            self.assertTrue(log == log_of(signals))

    def test_no_air(self):
        for wrong in NO_AIRS:
            self.refuses(NoAir, Log, wrong)
        self.refuses(NoAir, Log, air=None)

    def test_by_name(self):
        log = Log(air=AIR)
        self.assertEqual(log.put(signal=BALL), 0)
        self.assertTrue(log == log_of([BALL]))

    def test_each_log_keeps_its_own(self):
        one, other = Log(AIR), Log(AIR)
        one.put(BALL)
        self.assertEqual((len(one), len(other)), (1, 0))
        self.assertEqual(other.put(GUN), 0)
        self.assertEqual(one.all_told(), (telling_by(BALL, AIR),))


class LogTells(Case):
    def test_none_yet(self):
        log = Log(AIR)
        self.tells((), log.heard)
        self.tells((), log.all_told)
        self.tells((), log.from_to)

    def test_heard(self):
        self.tells((0, 1, 2), log_of(SIGNALS[:6]).heard)
        self.tells((), log_of(MISSED).heard)
        self.tells((1, 3), log_of([MISSED[0], BALL, MISSED[1], GUN, MISSED[2]]).heard)
        self.tells(tuple(range(10)), log_of([WIRE] * 10).heard)

    def test_all_told(self):
        for air in AIRS:
            for signals in (SIGNALS[:10], SIGNALS[5:15], MISSED, [MISSED[0], WIRE, MISSED[1], GUN, BALL, BALL]):
                log = log_of(signals, air)
                due = [due_telling(signal, *bounds(air)) for signal in signals]
                self.tells(tuple([telling for telling in due if telling is not None]), log.all_told)
                self.assertTrue(are_tellings(log.all_told()))

    def test_from_to(self):
        clocks = [(0, 1), (1, 0), (0, 2), (0, 1), (5, 4), (2, 1), (4, 5), (0, 5)]
        signals = [("ball", one, other, (1, 1), (2, 1) if at != 3 else None) for at, (one, other) in enumerate(clocks)]
        log = log_of(signals)
        for sender, hearer in product([None, 0, 1, 2, 3, 4, 5], repeat=2):
            due = [
                at for at, (one, other) in enumerate(clocks)
                if (sender is None or sender == one) and (hearer is None or hearer == other)
            ]
            self.tells(tuple(due), log.from_to, sender, hearer)
            self.tells(tuple(due), log.from_to, hearer=hearer, sender=sender)
            if hearer is None:
                self.tells(tuple(due), log.from_to, sender)
            if sender is None:
                self.tells(tuple(due), log.from_to, hearer=hearer)
        self.tells(tuple(range(8)), log.from_to)
        self.tells((0, 2, 3, 7), log.from_to, 0)
        self.tells((0, 3), log.from_to, 0, 1)
        self.tells((), log.from_to, 1, 1)

    def test_from_to_refused(self):
        for log in (Log(AIR), log_of(SIGNALS[:10])):
            for wrong in NO_NUMBERS:
                if wrong is not None:
                    self.refuses(NoNumber, log.from_to, wrong)
                    self.refuses(NoNumber, log.from_to, wrong, 1)
                    self.refuses(NoNumber, log.from_to, 1, wrong)
                    self.refuses(NoNumber, log.from_to, None, wrong)
                    self.refuses(NoNumber, log.from_to, hearer=wrong)
                    self.refuses(NoNumber, log.from_to, sender=wrong, hearer=None)

    def test_what_is_told_later_counts(self):
        log = log_of([BALL])
        told = log.all_told()
        log.put(GUN)
        self.assertEqual(told, (telling_by(BALL, AIR),))
        self.tells((telling_by(BALL, AIR), telling_by(GUN, AIR)), log.all_told)
        self.tells((0, 1), log.heard)

    def test_asking_changes_nothing(self):
        log = log_of(SIGNALS[:9])
        before = deepcopy(log)
        log.heard(), log.all_told(), log.from_to(1, 2), len(log), repr(log), log == before
        self.assertTrue(log == before)
        self.assertEqual(log.put(BALL), 9)


class LogAlike(Case):
    def test_airs_and_signals_in_their_order(self):
        self.assertIs(Log(AIR) == Log(Air((1, 5), (1, 3))), True)
        self.assertIs(Log(AIR) == Log(Air((1, 5))), False)
        self.assertIs(log_of([BALL, GUN]) == log_of([BALL, GUN]), True)
        self.assertIs(log_of([BALL, GUN]) != log_of([BALL, GUN]), False)
        self.assertIs(log_of([BALL, GUN]) == log_of([GUN, BALL]), False)
        self.assertIs(log_of([BALL, GUN]) != log_of([GUN, BALL]), True)
        self.assertIs(log_of([BALL]) == log_of([BALL, BALL]), False)
        self.assertIs(log_of([BALL]) == log_of([BALL], Air((1, 3))), False)
        self.assertIs(log_of([BALL]) == log_of([GUN]), False)
        # The same telling, the same clocks: but not the same signal.
        self.assertIs(log_of([BALL]) == log_of([("wire",) + BALL[1:] + ((0, 1), (0, 1))]), False)
        self.assertIs(log_of([BALL]) == log_of([BALL[:4] + (None,)]), False)

    def test_to_nothing_else(self):
        for other in NO_AIRS + [AIR, [BALL], (BALL,), Log]:
            self.assertIs(log_of([BALL]) == other, False)
            self.assertIs(other == log_of([BALL]), False)
            self.assertIs(Log(AIR) != other, True)

    def test_shown(self):
        for many in range(11):
            self.assertEqual(repr(log_of(SIGNALS[:many])), f"Log({many})")
            self.assertEqual(len(log_of(SIGNALS[:many])), many)


class WhatFollows(Case):
    """2.4."""

    def test_two_hearers_of_one_ball(self):
        for sent, one, other in product([(0, 1), (5, 2), (-1, 3)], repeat=3):
            log = log_of([("ball", 3, 1, sent, one), ("ball", 3, 2, sent, other)])
            apart = less(other, one)
            self.assertEqual(stretch_of(log.all_told(), 2, 1), (apart, apart))

    def test_a_missed_signal_bounds_nothing(self):
        for signal in MISSED:
            log = log_of([BALL])
            log.put(signal)
            self.assertEqual(log.all_told(), log_of([BALL]).all_told())

    def test_by_wider_air_no_telling_is_narrower(self):
        made = [Air(slow, fast) for slow, fast in product(ABOVE, repeat=2) if Fraction(*slow) <= Fraction(*fast)]
        for signal, narrow, wide in product(HEARD, made, made):
            if bounds(wide)[0] <= bounds(narrow)[0] and bounds(narrow)[1] <= bounds(wide)[1]:
                inner, outer = telling_by(signal, narrow), telling_by(signal, wide)
                self.assertLessEqual(Fraction(*outer[2]), Fraction(*inner[2]))
                self.assertLessEqual(Fraction(*inner[3]), Fraction(*outer[3]))


class Refusals(Case):
    def test_what_is_no_signal(self):
        for call in (lag_of, telling_by):
            for wrong in NO_SIGNALS:
                self.refuses(NoSignal, call, wrong, AIR)
                self.refuses(NoSignal, call, wrong, None)
            self.refuses(NoSignal, call, air=AIR, signal=None)

    def test_what_is_no_air(self):
        for call in (lag_of, telling_by):
            for wrong in NO_AIRS:
                for signal in (BALL, GUN, WIRE) + tuple(MISSED):
                    self.refuses(NoAir, call, signal, wrong)
            self.refuses(NoAir, call, air=None, signal=BALL)

    def test_what_stands_further_to_the_left_is_refused_first(self):
        self.refuses(NoSignal, lag_of, None, None)
        self.refuses(NoSignal, telling_by, (), ())
        self.refuses(NoSignal, telling_by, air=None, signal=None)
        self.refuses(NoPart, Air, (0, 1), ())
        self.refuses(NoPart, Air, None, (0, 1))
        self.refuses(NoSignal, log_of([BALL] * 10).put, None)


class Interface(unittest.TestCase):
    def test_defined_in_this_file(self):
        for thing in (Air, Log, is_signal, lag_of, telling_by):
            self.assertEqual(thing.__module__, "gunclocks.signals")

    def test_methods_stand_in_their_classes(self):
        for name in ("__init__", "lag", "__eq__", "__repr__"):
            self.assertIn(name, vars(Air))
        for name in ("__init__", "put", "heard", "all_told", "from_to", "__len__", "__eq__", "__repr__"):
            self.assertIn(name, vars(Log))
