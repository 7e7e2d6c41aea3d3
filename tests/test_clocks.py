"""0.2, 0.3, 1.2 and 1.3, as far as they speak of gunclocks/clocks.py."""

import unittest
from fractions import Fraction

from gunclocks.clocks import drift, is_clock, moments_of, shown_at, skipped, turned_back
from gunclocks.errors import NoClock, NoHour, NoMoment, NoPart
from gunclocks.parts import less, times
from tests.support import CLOCK, CLOCKS, LONG, NO_CLOCKS, NO_ERRORS, NO_MOMENTS, NO_PARTS, Case

BACK = ((0, 1), (((1, 1), (-3, 1)),))
AHEAD = ((0, 1), (((1, 1), (3, 1)),))
MOMENTS = [(0, 1), (1, LONG), (1, 3), (1, 2), (3, 4), (1, 1), (3, 2), (2, 1), (7, 2), (100, 7), (LONG, 2)]
ERRORS = [None, (0, 1), (-5, 2), (30, 1), (1, LONG), (-LONG, 1)]


def as_part(worth):
    return (worth.numerator, worth.denominator)


def due_drift(clock, moment):
    gain, sets = clock
    grown = Fraction(*moment) * Fraction(*gain)
    return grown + sum([Fraction(*jump) for at, jump in sets if Fraction(*at) <= Fraction(*moment)])


def due_shown(clock, moment, error):
    begun = Fraction(0) if error is None else Fraction(*error)
    return 24 * Fraction(*moment) + begun + due_drift(clock, moment)


def due_leaps(clock, error):
    shown = [due_shown(clock, at, error) for at, jump in clock[1]]
    return [(each - Fraction(*jump), each) for each, (at, jump) in zip(shown, clock[1])]


class IsClock(Case):
    def test_clocks(self):
        for clock in CLOCKS:
            self.tells(True, is_clock, clock)

    def test_none_of_them(self):
        for wrong in NO_CLOCKS:
            self.tells(False, is_clock, wrong)

    def test_gain_from_twelve_to_twelve(self):
        for top, due in ((-13, False), (-12, True), (0, True), (12, True), (13, False)):
            self.tells(due, is_clock, ((top, 1), ()))

    def test_what_is_no_part_is_no_gain_moment_or_jump(self):
        for wrong in NO_PARTS:
            self.tells(False, is_clock, (wrong, ()))
            self.tells(False, is_clock, ((0, 1), (((1, 1), wrong),)))
            self.tells(False, is_clock, ((0, 1), (((0, 1), (1, 1)), ((1, 1), wrong))))
        for wrong in NO_MOMENTS:
            self.tells(False, is_clock, ((0, 1), ((wrong, (1, 1)),)))

    def test_six_sets_at_most(self):
        for many in range(9):
            sets = tuple([((at, 1), (-1, 1)) for at in range(many)])
            self.tells(many <= 6, is_clock, ((0, 1), sets))

    def test_moments_rise_by_what_they_stand_for(self):
        self.tells(True, is_clock, ((0, 1), (((2, 5), (1, 1)), ((1, 2), (1, 1)))))
        self.tells(False, is_clock, ((0, 1), (((1, 2), (1, 1)), ((2, 5), (1, 1)))))
        self.tells(False, is_clock, ((0, 1), (((1, 2), (1, 1)), ((1, 2), (2, 1)))))

    def test_by_name(self):
        self.tells(True, is_clock, thing=CLOCK)
        self.tells(False, is_clock, thing=list(CLOCK))


class Drift(Case):
    def test_ordinary(self):
        self.tells((1, 1), drift, ((1, 2), ()), (2, 1))
        self.tells((-1, 6), drift, ((-1, 3), ()), (1, 2))
        self.tells((0, 1), drift, ((12, 1), ()), (0, 1))

    def test_a_set_counts_from_its_moment_on(self):
        self.tells((0, 1), drift, BACK, (1, 2))
        self.tells((0, 1), drift, BACK, (LONG - 1, LONG))
        self.tells((-3, 1), drift, BACK, (1, 1))
        self.tells((-3, 1), drift, BACK, (2, 1))

    def test_all_sets_count(self):
        self.tells((1, 4), drift, CLOCK, (1, 2))
        self.tells((-5, 2), drift, CLOCK, (1, 1))
        self.tells((-3, 2), drift, CLOCK, (2, 1))
        self.tells((1, 1), drift, ((0, 1), (((0, 1), (1, 1)),)), (0, 1))

    def test_against_fractions(self):
        for clock in CLOCKS:
            for moment in MOMENTS:
                self.tells(as_part(due_drift(clock, moment)), drift, clock, moment)

    def test_by_name(self):
        self.tells((-5, 2), drift, moment=(1, 1), clock=CLOCK)


class ShownAt(Case):
    def test_ordinary(self):
        self.tells((24, 1), shown_at, ((0, 1), ()), (1, 1))
        self.tells((12, 1), shown_at, ((0, 1), ()), (1, 2), None)
        self.tells((9, 1), shown_at, ((0, 1), ()), (1, 2), (-3, 1))
        self.tells((49, 4), shown_at, CLOCK, (1, 2))
        self.tells((45, 2), shown_at, CLOCK, (1, 1), (1, 1))
        self.tells((-5, 1), shown_at, ((12, 1), ()), (0, 1), (-5, 1))

    def test_no_error_is_nought(self):
        for clock in CLOCKS:
            told = self.ask(shown_at, clock, (3, 2))
            self.tells(told, shown_at, clock, (3, 2), None)
            self.tells(told, shown_at, clock, (3, 2), (0, 1))

    def test_against_fractions(self):
        for clock in CLOCKS:
            for moment in MOMENTS:
                for error in ERRORS:
                    self.tells(as_part(due_shown(clock, moment, error)), shown_at, clock, moment, error)

    def test_by_name(self):
        self.tells((45, 2), shown_at, error=(1, 1), moment=(1, 1), clock=CLOCK)
        self.tells((43, 2), shown_at, moment=(1, 1), clock=CLOCK)


class MomentsOf(Case):
    def test_ordinary(self):
        self.tells([(1, 2)], moments_of, ((0, 1), ()), (12, 1))
        self.tells([(1, 1)], moments_of, ((-12, 1), ()), (12, 1))
        self.tells([(1, 3)], moments_of, ((12, 1), ()), (12, 1))
        self.tells([(5, 8)], moments_of, ((0, 1), ()), (12, 1), (-3, 1))
        self.tells([(3, 8)], moments_of, ((0, 1), ()), (12, 1), (3, 1))

    def test_the_beginning(self):
        plain = ((0, 1), ())
        self.tells([(0, 1)], moments_of, plain, (0, 1))
        self.tells([], moments_of, plain, (-1, LONG))
        self.tells([(1, 24 * LONG)], moments_of, plain, (1, LONG))
        self.tells([(0, 1)], moments_of, plain, (-5, 1), (-5, 1))
        self.tells([], moments_of, plain, (4, 1), (5, 1))

    def test_turned_back_is_told_twice(self):
        self.tells([(7, 8), (1, 1)], moments_of, BACK, (21, 1))
        self.tells([(23, 24), (13, 12)], moments_of, BACK, (23, 1))
        self.tells([(9, 8)], moments_of, BACK, (24, 1))
        self.tells([(41, 48)], moments_of, BACK, (41, 2))

    def test_skipped_is_not_told(self):
        self.tells([(23, 24)], moments_of, AHEAD, (23, 1))
        self.tells([], moments_of, AHEAD, (24, 1))
        self.tells([], moments_of, AHEAD, (26, 1))
        self.tells([(1, 1)], moments_of, AHEAD, (27, 1))

    def test_set_at_the_beginning(self):
        self.tells([], moments_of, ((0, 1), (((0, 1), (1, 1)),)), (0, 1))
        self.tells([(0, 1)], moments_of, ((0, 1), (((0, 1), (1, 1)),)), (1, 1))
        self.tells([(0, 1)], moments_of, ((0, 1), (((0, 1), (-1, 1)),)), (-1, 1))
        self.tells([(1, 24)], moments_of, ((0, 1), (((0, 1), (-1, 1)),)), (0, 1))

    def test_told_three_times(self):
        clock = ((0, 1), (((1, 1), (-12, 1)), ((3, 2), (-12, 1))))
        self.tells([(5, 6), (4, 3), (11, 6)], moments_of, clock, (20, 1))
        self.tells([(3, 4), (5, 4), (7, 4)], moments_of, clock, (18, 1))
        self.tells([(2, 1)], moments_of, clock, (24, 1))
        self.tells([(1, 2), (1, 1), (3, 2)], moments_of, clock, (12, 1))

    def test_all_moments_and_no_others(self):
        for clock in CLOCKS:
            for error in ERRORS[:4]:
                for hour in self.hours_of(clock, error):
                    self.look_at(clock, hour, error)

    def hours_of(self, clock, error):
        hours = [due_shown(clock, moment, error) for moment in MOMENTS[:10]]
        for before, shown in due_leaps(clock, error):
            hours += [before, shown, (before + shown) / 2, min(before, shown) - Fraction(1, 9)]
        start = Fraction(0) if error is None else Fraction(*error)
        return [as_part(hour) for hour in hours + [start, start - 1, start - Fraction(1, LONG)]]

    def look_at(self, clock, hour, error):
        told = self.ask(moments_of, clock, hour, error)
        worths = [Fraction(*moment) for moment in told]
        self.assertEqual(told, [as_part(worth) for worth in worths])
        self.assertEqual(worths, sorted(set(worths)))
        self.assertTrue(all([worth >= 0 for worth in worths]))
        for moment in told:
            self.assertEqual(due_shown(clock, moment, error), Fraction(*hour))
        # The closing rule of 1.3 tells how many there must be.
        due, sought = 1, Fraction(*hour)
        for before, shown in due_leaps(clock, error):
            due += (shown <= sought < before) - (before <= sought < shown)
        due -= sought < (Fraction(0) if error is None else Fraction(*error))
        self.assertEqual(len(told), due)

    def test_no_error_is_nought(self):
        for clock in CLOCKS:
            told = self.ask(moments_of, clock, (30, 1))
            self.tells(told, moments_of, clock, (30, 1), None)
            self.tells(told, moments_of, clock, (30, 1), (0, 1))

    def test_by_name(self):
        self.tells([(7, 8), (1, 1)], moments_of, error=(1, 1), hour=(22, 1), clock=BACK)
        self.tells([(7, 8), (1, 1)], moments_of, hour=(21, 1), clock=BACK)


class Leaps(Case):
    def test_turned_back(self):
        self.tells([((21, 1), (24, 1))], turned_back, BACK)
        self.tells([((22, 1), (25, 1))], turned_back, BACK, (1, 1))
        self.tells([], turned_back, AHEAD)
        self.tells([], turned_back, ((1, 2), ()))
        self.tells([((-1, 1), (0, 1))], turned_back, ((5, 1), (((0, 1), (-1, 1)),)))

    def test_skipped(self):
        self.tells([((24, 1), (27, 1))], skipped, AHEAD)
        self.tells([((23, 1), (26, 1))], skipped, AHEAD, (-1, 1))
        self.tells([], skipped, BACK)
        self.tells([], skipped, ((1, 2), ()))
        self.tells([((0, 1), (1, 1))], skipped, ((5, 1), (((0, 1), (1, 1)),)))

    def test_the_sets_ahead_are_counted_and_those_behind_are_not(self):
        self.tells([((43, 2), (49, 2))], turned_back, CLOCK)
        self.tells([((46, 1), (93, 2))], skipped, CLOCK)

    def test_in_the_order_of_the_sets(self):
        sets = (((1, 1), (-40, 1)), ((2, 1), (1, 1)), ((3, 1), (-60, 1)), ((4, 1), (2, 1)))
        clock = ((0, 1), sets)
        self.tells([((-16, 1), (24, 1)), ((-27, 1), (33, 1))], turned_back, clock)
        self.tells([((8, 1), (9, 1)), ((-3, 1), (-1, 1))], skipped, clock)
        falling = ((0, 1), (((1, 1), (-90, 1)), ((2, 1), (-90, 1))))
        self.tells([((-66, 1), (24, 1)), ((-132, 1), (-42, 1))], turned_back, falling)

    def test_against_fractions(self):
        for clock in CLOCKS:
            for error in ERRORS:
                leaps = [(as_part(low), as_part(high)) for low, high in due_leaps(clock, error) if low < high]
                self.tells(leaps, skipped, clock, error)
                falls = [(as_part(high), as_part(low)) for low, high in due_leaps(clock, error) if high < low]
                self.tells(falls, turned_back, clock, error)

    def test_no_error_is_nought(self):
        for call in (turned_back, skipped):
            for clock in CLOCKS:
                told = self.ask(call, clock)
                self.tells(told, call, clock, None)
                self.tells(told, call, clock, (0, 1))

    def test_by_name(self):
        self.tells([((22, 1), (25, 1))], turned_back, error=(1, 1), clock=BACK)
        self.tells([((23, 1), (26, 1))], skipped, error=(-1, 1), clock=AHEAD)


MANY = ((1, 7), (
    ((1, 3), (-1, 2)), ((2, 3), (1, 2)), ((5, 3), (-1, 4)), ((7, 3), (1, 9)), ((8, 3), (-2, 3)), ((10, 3), (1, 2)),
))


class LeapsOfManySets(Case):
    def test_both_ways_by_turns(self):
        self.tells([
            ((1627, 210), (866, 105)), ((16879, 420), (4246, 105)), ((80357, 1260), (81197, 1260)),
        ], turned_back, MANY, (1, 5))
        self.tells([
            ((3317, 210), (1711, 105)), ((3377, 60), (10151, 180)), ((100637, 1260), (101267, 1260)),
        ], skipped, MANY, (1, 5))

    def test_no_error_is_nought(self):
        back = [((317, 42), (169, 21)), ((3359, 84), (845, 21)), ((16021, 252), (16189, 252))]
        ahead = [((655, 42), (338, 21)), ((673, 12), (2023, 36)), ((20077, 252), (20203, 252))]
        for errors in ((), (None,), ((0, 1),)):
            self.tells(back, turned_back, MANY, *errors)
            self.tells(ahead, skipped, MANY, *errors)

    def test_it_tells_what_is_shown(self):
        for clock in CLOCKS + [MANY]:
            for error in ERRORS:
                told = {(low, high): True for low, high in skipped(clock, error)}
                told.update({(high, low): True for low, high in turned_back(clock, error)})
                due = {}
                for moment, jump in clock[1]:
                    shown = shown_at(clock, moment, error)
                    due[(less(shown, jump), shown)] = True
                self.assertEqual(told, due)

    def test_refused(self):
        more = MANY[1] + (((11, 3), (1, 1)),)
        for call in (turned_back, skipped):
            for wrong in (None, (MANY[0], more), (MANY[0], MANY[1][::-1]), ((13, 1), MANY[1]), list(MANY)):
                self.refuses(NoClock, call, wrong, (1, 5))
                self.refuses(NoClock, call, wrong, ())
                self.refuses(NoClock, call, wrong)
            for wrong in NO_ERRORS:
                self.refuses(NoPart, call, MANY, wrong)
            for at in range(6):
                for wrong in NO_MOMENTS:
                    self.refuses(NoClock, call, (MANY[0], self.put_at(at, (wrong, (1, 1)))), (1, 5))
                for wrong in NO_PARTS + [(0, 1)]:
                    self.refuses(NoClock, call, (MANY[0], self.put_at(at, (MANY[1][at][0], wrong))), ())

    def put_at(self, at, entry):
        return MANY[1][:at] + (entry,) + MANY[1][at + 1:]


class WhatIsTold(Case):
    def test_lists_told_are_the_asker_s_own(self):
        for call, handed in ((moments_of, (BACK, (21, 1))), (turned_back, (BACK,)), (skipped, (AHEAD,))):
            due = list(call(*handed))
            told = call(*handed)
            told.append("more")
            told[0] = None
            self.tells(due, call, *handed)
            call(*handed).clear()
            self.tells(due, call, *handed)

    def test_what_was_told_is_handed_in_again_however_long(self):
        hour = (1, 1)
        for _ in range(120):
            hour = times(hour, (LONG, 7 ** 40))
        (moment,) = moments_of(CLOCK, hour)
        self.assertTrue(due_shown(CLOCK, moment, None) == Fraction(*hour))
        self.assertTrue(shown_at(CLOCK, moment) == hour)
        self.assertTrue(drift(CLOCK, moment) == as_part(due_drift(CLOCK, moment)))
        ((low, high),) = turned_back(CLOCK, hour)
        self.assertTrue(less(low, hour) == (43, 2) and less(high, hour) == (49, 2))
        self.assertIs(is_clock(((0, 1), ((moment, hour),))), True)
        self.refuses(NoClock, drift, (hour, ()), moment)
        self.refuses(NoMoment, drift, CLOCK, less((0, 1), hour))


class Refusals(Case):
    def test_what_is_no_clock(self):
        for wrong in NO_CLOCKS:
            self.refuses(NoClock, drift, wrong, (1, 1))
            self.refuses(NoClock, shown_at, wrong, (1, 1))
            self.refuses(NoClock, shown_at, wrong, (1, 1), (1, 2))
            self.refuses(NoClock, moments_of, wrong, (1, 1))
            self.refuses(NoClock, moments_of, wrong, (1, 1), (1, 2))
            for call in (turned_back, skipped):
                self.refuses(NoClock, call, wrong)
                self.refuses(NoClock, call, wrong, (1, 2))
                self.refuses(NoClock, call, error=None, clock=wrong)

    def test_what_is_no_moment(self):
        for wrong in NO_MOMENTS:
            self.refuses(NoMoment, drift, CLOCK, wrong)
            self.refuses(NoMoment, drift, clock=((0, 1), ()), moment=wrong)
            self.refuses(NoMoment, shown_at, CLOCK, wrong)
            self.refuses(NoMoment, shown_at, CLOCK, wrong, (1, 2))

    def test_what_is_no_hour(self):
        for wrong in NO_PARTS:
            self.refuses(NoHour, moments_of, CLOCK, wrong)
            self.refuses(NoHour, moments_of, CLOCK, wrong, (1, 2))
            self.refuses(NoHour, moments_of, clock=((0, 1), ()), hour=wrong)

    def test_what_is_no_error(self):
        for wrong in NO_ERRORS:
            for clock in (CLOCK, ((0, 1), ())):
                self.refuses(NoPart, shown_at, clock, (1, 1), wrong)
                self.refuses(NoPart, moments_of, clock, (1, 1), wrong)
                self.refuses(NoPart, turned_back, clock, wrong)
                self.refuses(NoPart, skipped, clock, wrong)
                self.refuses(NoPart, skipped, error=wrong, clock=clock)

    def test_what_stands_further_to_the_left_is_refused_first(self):
        self.refuses(NoClock, drift, None, None)
        self.refuses(NoClock, drift, (1, 2), (-1, 1))
        self.refuses(NoClock, shown_at, None, None, ())
        self.refuses(NoClock, shown_at, [], (1, 1), ())
        self.refuses(NoMoment, shown_at, CLOCK, (-1, 1), ())
        self.refuses(NoClock, moments_of, (), None, ())
        self.refuses(NoClock, moments_of, (), (1, 1), ())
        self.refuses(NoHour, moments_of, CLOCK, None, ())
        self.refuses(NoClock, turned_back, (), ())
        self.refuses(NoClock, skipped, (), ())
        self.refuses(NoClock, shown_at, error=(), moment=(), clock=())
        self.refuses(NoMoment, shown_at, error=(), moment=(), clock=CLOCK)
        self.refuses(NoHour, moments_of, error=(), hour=(), clock=CLOCK)


class Interface(unittest.TestCase):
    def test_defined_in_this_file(self):
        for call in (is_clock, drift, shown_at, moments_of, turned_back, skipped):
            self.assertEqual(call.__module__, "gunclocks.clocks")
