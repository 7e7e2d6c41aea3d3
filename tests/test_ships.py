"""0.2, 0.3 and 6.1 to 6.4, as far as they speak of gunclocks/ships.py."""

import unittest
from copy import deepcopy
from fractions import Fraction
from itertools import product
from random import Random

from gunclocks.errors import Apart, NoCarriage, NoDeed, NoNumber, NoPart
from gunclocks.parts import added, less, times
from gunclocks.ships import (
    Ship, carriage_telling, doubted, is_carriage, round_gain, ship_tellings, towns_apart,
)
from gunclocks.stretches import stretch_of
from gunclocks.tellings import are_tellings, is_telling
from tests.reckoning import as_part, do_agree, due_carried, due_round, due_stretch, part_from, without
from tests.support import (
    BALL, CARRIAGE, CARRIAGES, LONG, NO_CARRIAGE, NO_CARRIAGES, NO_NUMBERS, NO_PARTS, PARTS, TELLING, TEN_CARRIAGES,
    WIDE_TEXT, Case, kinds,
)

NOT_FROM_NOUGHT = [(-1, 1), (-1, 2), (-1, LONG), (-LONG, 1)]


def some_carriages(seed, count):
    """So many tuples of carriages by chance, of a few towns, so that they don't always agree."""
    chance = Random(seed)
    found = [(), (CARRIAGE,), tuple(CARRIAGES), TEN_CARRIAGES]
    while len(found) < count:
        carriages = []
        for _ in range(chance.randint(1, 10)):
            one, other = chance.sample(range(chance.choice((3, 6))), 2)
            least = part_from(chance, 1)
            most = least + abs(part_from(chance, 1))
            row = [part_from(chance, 2), part_from(chance, 2), abs(part_from(chance, 4)), least, most]
            carriages.append((one, other, *[as_part(worth) for worth in row]))
        found.append(tuple(carriages))
    return found


CHANCE = some_carriages(61, 150)
AGREED = [carriages for carriages in CHANCE if do_agree(tuple([due_carried(each) for each in carriages]))]
QUARRELS = [carriages for carriages in CHANCE if carriages not in AGREED]


class IsCarriage(Case):
    def test_carriages(self):
        for carriage in CARRIAGES + list(TEN_CARRIAGES):
            self.tells(True, is_carriage, carriage)

    def test_none_of_them(self):
        for wrong in NO_CARRIAGE:
            self.tells(False, is_carriage, wrong)

    def test_all_pairs_of_clocks(self):
        for one, other in product(range(-1, 8), repeat=2):
            due = one != other and 0 <= one < 6 and 0 <= other < 6
            self.tells(due, is_carriage, (one, other) + CARRIAGE[2:])

    def test_any_parts(self):
        for left, came in product(PARTS, repeat=2):
            self.tells(True, is_carriage, CARRIAGE[:2] + (left, came) + CARRIAGE[4:])

    def test_days_from_nought_on(self):
        for days in PARTS:
            self.tells(days[0] >= 0, is_carriage, CARRIAGE[:4] + (days,) + CARRIAGE[5:])

    def test_least_and_most(self):
        for least, most in product(PARTS + [(2, 5)], repeat=2):
            self.tells(Fraction(*least) <= Fraction(*most), is_carriage, CARRIAGE[:5] + (least, most))

    def test_by_name(self):
        self.tells(True, is_carriage, thing=CARRIAGE)
        self.tells(False, is_carriage, thing=list(CARRIAGE))


class CarriageTelling(Case):
    def test_ordinary(self):
        self.tells((0, 1, (-3, 1), (16, 3)), carriage_telling, CARRIAGE)
        self.tells((3, 0, (3, 1), (5, 1)), carriage_telling, (3, 0, (5, 1), (4, 1), (2, 1), (1, 1), (2, 1)))
        self.tells((0, 3, (-5, 1), (-3, 1)), carriage_telling, (0, 3, (5, 1), (6, 1), (2, 1), (-2, 1), (-1, 1)))

    def test_no_days_under_way(self):
        self.tells((5, 0, (-1, 3), (-1, 3)), carriage_telling, (5, 0, (2, 3), (1, 1), (0, 1), (-9, 1), (9, 1)))

    def test_against_fractions(self):
        for carriage in CARRIAGES + [each for carriages in CHANCE for each in carriages]:
            self.tells(due_carried(carriage), carriage_telling, carriage)
            self.assertTrue(is_telling(carriage_telling(carriage)))

    def test_by_name(self):
        self.tells((0, 1, (-3, 1), (16, 3)), carriage_telling, carriage=CARRIAGE)


class ShipTellings(Case):
    def test_in_their_order(self):
        self.tells((), ship_tellings, ())
        for carriages in CHANCE:
            self.tells(tuple([due_carried(each) for each in carriages]), ship_tellings, carriages)
            self.assertTrue(are_tellings(ship_tellings(carriages)))

    def test_ten_at_most(self):
        self.tells((due_carried(CARRIAGE),) * 10, ship_tellings, (CARRIAGE,) * 10)
        self.refuses(NoCarriage, ship_tellings, (CARRIAGE,) * 11)

    def test_by_name(self):
        self.tells((due_carried(CARRIAGE),), ship_tellings, carriages=(CARRIAGE,))


def ship_of(carriages, least=(-1, 2), most=(1, 3)):
    """A ship that has these carriages, all within its bounds."""
    ship = Ship(least, most)
    for one, other, left, came, days, _, _ in carriages:
        ship.leaves(one, left)
        ship.comes(other, came, days)
    return ship


def picture(ship):
    return (ship.sailed(), len(ship), repr(ship))


class ShipMade(Case):
    def test_of_two_parts(self):
        for least, most in product(PARTS, repeat=2):
            if Fraction(*least) <= Fraction(*most):
                ship = Ship(least, most)
                self.assertEqual(picture(ship), ((), 0, "Ship(0)"))
                ship.leaves(0, (1, 1))
                self.assertEqual(ship.comes(1, (1, 1), (1, 1)), (0, 1, least, most))
            else:
                self.refuses(NoCarriage, Ship, least, most)

    def test_most_is_least_where_it_is_not_handed_in(self):
        for least in PARTS:
            self.assertTrue(Ship(least) == Ship(least, None) == Ship(least, least) == Ship(least=least))
            ship = Ship(least)
            ship.leaves(0, (1, 1))
            self.assertEqual(ship.comes(1, (1, 1), (1, 1)), (0, 1, least, least))

    def test_no_part(self):
        for wrong in NO_PARTS:
            self.refuses(NoPart, Ship, wrong)
            self.refuses(NoPart, Ship, wrong, (1, 1))
            self.refuses(NoPart, Ship, wrong, 0)
        for wrong in NO_PARTS[1:]:
            self.refuses(NoPart, Ship, (5, 1), wrong)
            self.refuses(NoPart, Ship, most=wrong, least=(5, 1))

    def test_by_name(self):
        self.assertTrue(Ship(most=(1, 2), least=(0, 1)) == Ship((0, 1), (1, 2)))


class ShipDeeds(Case):
    def test_leaves_and_comes(self):
        ship = Ship((-1, 2), (1, 3))
        self.assertIsNone(ship.leaves(0, (5, 1)))
        self.assertEqual(picture(ship), ((), 0, "Ship(0)"))
        self.assertEqual(kinds(ship.comes(1, (3, 1), (10, 1))), kinds((0, 1, (-3, 1), (16, 3))))
        self.assertEqual(picture(ship), ((CARRIAGE,), 1, "Ship(1)"))
        self.assertIsNone(ship.leaves(clock=5, ahead=(0, 1)))
        self.assertEqual(ship.comes(days=(0, 1), ahead=(1, 2), clock=0), (5, 0, (-1, 2), (-1, 2)))
        second = (5, 0, (0, 1), (1, 2), (0, 1), (-1, 2), (1, 3))
        self.assertEqual(picture(ship), ((CARRIAGE, second), 2, "Ship(2)"))

    def test_each_telling_is_that_of_its_carriage(self):
        ship = ship_of(())
        for one, other, left, came, days, _, _ in TEN_CARRIAGES:
            ship.leaves(one, left)
            told = ship.comes(other, came, days)
            self.assertEqual(told, carriage_telling(ship.sailed()[-1]))
            self.assertEqual(ship.sailed()[-1], (one, other, left, came, days, (-1, 2), (1, 3)))
        self.assertEqual(len(ship), 10)

    def test_it_leaves_from_anywhere(self):
        ship = Ship((1, 1))
        for one, other in product(range(6), repeat=2):
            if one != other and len(ship) < 10:
                ship.leaves(one, (0, 1))
                ship.comes(other, (0, 1), (2, 1))
                self.assertEqual(ship.sailed()[-1][:2], (one, other))

    def test_under_way_already(self):
        ship = Ship((0, 1))
        ship.leaves(0, (1, 1))
        before = deepcopy(ship)
        for clock, ahead in ((0, (1, 1)), (1, (1, 1)), (5, (-1, 2))):
            self.refuses(NoDeed, ship.leaves, clock, ahead)
        self.refuses(NoDeed, ship.leaves, ahead=(1, 1), clock=0)
        self.assertTrue(ship == before)
        self.assertEqual(ship.comes(1, (0, 1), (1, 1)), (0, 1, (1, 1), (1, 1)))

    def test_not_under_way(self):
        for ship in (Ship((0, 1)), ship_of(TEN_CARRIAGES[:2]), ship_of(TEN_CARRIAGES)):
            before = deepcopy(ship)
            self.refuses(NoDeed, ship.comes, 1, (0, 1), (1, 1))
            for wrong in NO_PARTS:
                self.refuses(NoDeed, ship.comes, wrong, (0, 1), (1, 1))
                self.refuses(NoDeed, ship.comes, 1, wrong, (1, 1))
                self.refuses(NoDeed, ship.comes, 1, (0, 1), wrong)
            self.refuses(NoDeed, ship.comes, None, None, None)
            self.assertTrue(ship == before)

    def test_ten_carriages_at_most(self):
        ship = ship_of(TEN_CARRIAGES)
        ship.leaves(2, (1, 1))
        before = deepcopy(ship)
        self.too_many(11, 10, ship.comes, 1, (0, 1), (1, 1))
        self.too_many(11, 10, ship.comes, days=(0, 1), ahead=(0, 1), clock=0)
        self.refuses(NoNumber, ship.comes, 2, (0, 1), (1, 1))
        self.refuses(NoPart, ship.comes, 1, None, (1, 1))
        self.refuses(NoPart, ship.comes, 1, (0, 1), (-1, 1))
        # It is under way still.
        self.refuses(NoDeed, ship.leaves, 2, (1, 1))
        self.assertTrue(ship == before)
        self.assertEqual(len(ship), 10)

    def test_leaves_refused(self):
        ship = ship_of(TEN_CARRIAGES[:2])
        before = deepcopy(ship)
        under_way = deepcopy(ship)
        under_way.leaves(3, (1, 2))
        for each in (ship, under_way):
            for wrong in NO_NUMBERS:
                self.refuses(NoNumber, each.leaves, wrong, (1, 1))
                self.refuses(NoNumber, each.leaves, wrong, None)
            for wrong in NO_PARTS:
                self.refuses(NoPart, each.leaves, 3, wrong)
                self.refuses(NoPart, each.leaves, ahead=wrong, clock=0)
        self.assertTrue(ship == before)
        ship.leaves(3, (1, 2))
        self.assertTrue(ship == under_way)

    def test_comes_refused(self):
        for many in (0, 3, 10):
            ship = ship_of(TEN_CARRIAGES[:many])
            ship.leaves(3, (1, 2))
            before = deepcopy(ship)
            for wrong in NO_NUMBERS + [3]:
                self.refuses(NoNumber, ship.comes, wrong, (0, 1), (1, 1))
                self.refuses(NoNumber, ship.comes, wrong, None, None)
            for wrong in NO_PARTS:
                self.refuses(NoPart, ship.comes, 4, wrong, (1, 1))
                self.refuses(NoPart, ship.comes, 4, wrong, None)
                self.refuses(NoPart, ship.comes, 4, (0, 1), wrong)
                self.refuses(NoPart, ship.comes, days=wrong, ahead=(0, 1), clock=4)
            for wrong in NOT_FROM_NOUGHT:
                self.refuses(NoPart, ship.comes, 4, (0, 1), wrong)
            self.refuses(NoNumber, ship.comes, 3, None, None)
            self.assertTrue(ship == before)
            self.assertEqual(picture(ship), picture(before))

    def test_each_ship_keeps_its_own(self):
        one, other = Ship((0, 1)), Ship((0, 1))
        one.leaves(0, (1, 1))
        self.refuses(NoDeed, other.comes, 1, (1, 1), (1, 1))
        one.comes(1, (1, 1), (1, 1))
        self.assertEqual((len(one), len(other)), (1, 0))

    def test_what_is_told_later_counts(self):
        ship = ship_of(TEN_CARRIAGES[:2])
        told = self.ask(ship.sailed)
        ship.leaves(0, (1, 1))
        self.tells(told, ship.sailed)
        ship.comes(1, (1, 1), (1, 1))
        self.assertEqual((len(told), len(ship.sailed())), (2, 3))


class ShipAlike(Case):
    def made(self):
        """Ships any two of which are unlike, made anew each time."""
        ships = [
            Ship((0, 1)), Ship((0, 1), (1, 2)), Ship((1, 2)), ship_of(()), ship_of(TEN_CARRIAGES[:1]),
            ship_of(TEN_CARRIAGES[:2]), ship_of(TEN_CARRIAGES[1:2]), ship_of(TEN_CARRIAGES[:2][::-1]),
            ship_of(TEN_CARRIAGES[:1] * 2), ship_of(TEN_CARRIAGES[:1], (-1, 2), (1, 4)),
        ]
        under_way = [((), 0, (0, 1)), ((), 0, (1, 1)), ((), 1, (0, 1)), (TEN_CARRIAGES[:2], 0, (0, 1))]
        for carriages, clock, ahead in under_way:
            ship = ship_of(carriages)
            ship.leaves(clock, ahead)
            ships.append(ship)
        return list(enumerate(ships))

    def test_just_where_all_is_alike(self):
        for (at, one), (place, other) in product(self.made(), self.made()):
            self.assertIs(one == other, at == place, (at, place))
            self.assertIs(one != other, at != place)

    def test_how_it_came_there_is_all_one(self):
        one, other = ship_of(TEN_CARRIAGES[:2]), ship_of(TEN_CARRIAGES[:2])
        one.leaves(0, (1, 1))
        self.assertIs(one == other, False)
        other.leaves(0, (1, 1))
        self.assertIs(one == other, True)
        one.comes(1, (1, 1), (1, 1))
        self.assertIs(one == other, False)
        self.refuses(NoDeed, one.comes, 1, (1, 1), (1, 1))
        other.comes(1, (1, 1), (1, 1))
        self.assertIs(one == other, True)

    def test_to_nothing_else(self):
        for other in NO_CARRIAGES[:40] + [TEN_CARRIAGES[:1], [CARRIAGE], Ship, BALL]:
            for ship in (Ship((0, 1)), ship_of(TEN_CARRIAGES[:1])):
                self.assertIs(ship == other, False)
                self.assertIs(other == ship, False)
                self.assertIs(ship != other, True)

    def test_shown(self):
        for many in range(11):
            ship = ship_of(TEN_CARRIAGES[:many])
            self.assertEqual((repr(ship), len(ship)), (f"Ship({many})", many))
            ship.leaves(0, (1, 1))
            self.assertEqual((repr(ship), str(ship), len(ship)), (f"Ship({many})", f"Ship({many})", many))

    def test_asking_changes_nothing(self):
        ship = ship_of(TEN_CARRIAGES[:4])
        ship.leaves(2, (1, 7))
        before = deepcopy(ship)
        ship.sailed(), len(ship), repr(ship), ship == Ship((0, 1)), ship == before
        self.assertTrue(ship == before)
        self.assertEqual(ship.comes(3, (1, 7), (0, 1)), (2, 3, (0, 1), (0, 1)))


# Left 5 ahead, came 3 ahead 10 days later; back it left 4 ahead, came 1 ahead 5 days later.
HOME = (1, 0, (4, 1), (1, 1), (5, 1), (-1, 2), (1, 3))


class RoundGain(Case):
    def test_ordinary(self):
        # 2 + 10 g is what -3 - 5 g is where g is -1/3.
        self.tells(((-1, 3), (-4, 3)), round_gain, CARRIAGE, HOME)
        self.tells(((-1, 3), (4, 3)), round_gain, HOME, CARRIAGE)

    def test_within_both_carriages_bounds(self):
        bounds = [(-1, 1), (-1, 2), (-LONG, 3 * LONG - 1), (-1, 3), (-LONG, 3 * LONG + 1), (0, 1), (1, 1)]
        for least, most in product(bounds, repeat=2):
            if Fraction(*least) <= Fraction(*most):
                due = ((-1, 3), (-4, 3)) if Fraction(*least) <= Fraction(-1, 3) <= Fraction(*most) else None
                self.tells(due, round_gain, CARRIAGE[:5] + (least, most), HOME)
                self.tells(due, round_gain, CARRIAGE, HOME[:5] + (least, most))

    def test_no_days_one_way(self):
        there = CARRIAGE[:4] + ((0, 1), (-9, 1), (9, 1))
        home = HOME[:5] + ((-9, 1), (9, 1))
        self.tells(((-1, 1), (2, 1)), round_gain, there, home)
        self.tells(((-1, 2), (-3, 1)), round_gain, CARRIAGE[:5] + there[5:], home[:4] + ((0, 1),) + home[5:])

    def test_no_days_at_all(self):
        there = (2, 4, (5, 1), (3, 1), (0, 1))
        home = (4, 2, (1, 1), (3, 1), (0, 1))
        bounds = [(-1, 1), (0, 1), (1, 2), (2, 3)]
        for one, other, two, three in product(bounds, repeat=4):
            if Fraction(*one) <= Fraction(*other) and Fraction(*two) <= Fraction(*three):
                gain = max(Fraction(*one), Fraction(*two))
                due = None
                if gain <= min(Fraction(*other), Fraction(*three)):
                    due = (as_part(gain), (2, 1))
                self.tells(due, round_gain, there + (one, other), home + (two, three))
                apart = home[:3] + ((3 * LONG + 1, LONG), (0, 1), two, three)
                self.tells(None, round_gain, there + (one, other), apart)

    def test_against_fractions(self):
        chance = Random(62)
        told = 0
        for _ in range(600):
            one, other = chance.sample(range(6), 2)
            rows = []
            for _ in range(2):
                least = part_from(chance, 2)
                most = least + abs(part_from(chance, 4))
                days = abs(part_from(chance, 3)) * chance.randint(0, 1)
                row = [Fraction(chance.randint(0, 1)), Fraction(chance.randint(0, 1)), days, least, most]
                rows.append(tuple([as_part(worth) for worth in row]))
            there, home = (one, other) + rows[0], (other, one) + rows[1]
            due = due_round(there, home)
            self.tells(due, round_gain, there, home)
            told += due is not None
        self.assertGreater(told, 50)
        self.assertGreater(600 - told, 50)

    def test_both_tell_one_and_the_same(self):
        for there, home in ((CARRIAGE, HOME), (HOME, CARRIAGE)):
            gain, apart = round_gain(there, home)
            self.assertEqual(carriage_telling(there[:5] + (gain, gain))[2:], (apart, apart))
            back = less((0, 1), apart)
            self.assertEqual(carriage_telling(home[:5] + (gain, gain))[2:], (back, back))

    def test_refused(self):
        for wrong in NO_CARRIAGE:
            self.refuses(NoCarriage, round_gain, wrong, HOME)
            self.refuses(NoCarriage, round_gain, CARRIAGE, wrong)
            self.refuses(NoCarriage, round_gain, home=None, there=wrong)
        for one, other in product(range(6), repeat=2):
            if one != other and (one, other) != (1, 0):
                self.refuses(NoCarriage, round_gain, CARRIAGE, (one, other) + HOME[2:])
        self.refuses(NoCarriage, round_gain, CARRIAGE, CARRIAGE)

    def test_by_name(self):
        self.tells(((-1, 3), (-4, 3)), round_gain, home=HOME, there=CARRIAGE)


def due_doubted(carriages):
    tellings = tuple([due_carried(carriage) for carriage in carriages])
    if do_agree(tellings):
        return ()
    return tuple([number for number in range(len(tellings)) if do_agree(without(tellings, number))])


STILL = (0, 1, (0, 1), (0, 1), (0, 1), (0, 1), (0, 1))
OTHERWISE = STILL[:3] + ((1, 1),) + STILL[4:]


class Doubted(Case):
    def test_ordinary(self):
        self.tells((), doubted, ())
        self.tells((), doubted, (STILL, STILL))
        self.tells((0, 1), doubted, (STILL, OTHERWISE))
        self.tells((1,), doubted, (STILL, OTHERWISE, STILL))
        self.tells((), doubted, (STILL, OTHERWISE, STILL, OTHERWISE))
        self.tells((0,), doubted, (OTHERWISE,) + (STILL,) * 9)

    def test_by_chance(self):
        self.assertGreater(len(QUARRELS), 30)
        for carriages in CHANCE:
            self.tells(due_doubted(carriages), doubted, carriages)
        self.assertGreater(len([1 for carriages in QUARRELS if due_doubted(carriages)]), 10)

    def test_by_name(self):
        self.tells((0, 1), doubted, carriages=(STILL, OTHERWISE))


class TownsApart(Case):
    def test_ordinary(self):
        self.tells(((-3, 1), (16, 3)), towns_apart, (CARRIAGE,), 0, 1)
        self.tells(((-16, 3), (3, 1)), towns_apart, (CARRIAGE,), 1, 0)
        self.tells((None, None), towns_apart, (CARRIAGE,), 0, 2)
        self.tells((None, None), towns_apart, (), 3, 4)
        self.tells(((0, 1), (0, 1)), towns_apart, (CARRIAGE,), 2, 2)

    def test_by_chance(self):
        self.assertGreater(len(AGREED), 30)
        for carriages in AGREED:
            tellings = tuple([due_carried(carriage) for carriage in carriages])
            for one, other in product(range(6), repeat=2):
                due = due_stretch(tellings, other, one)
                if towns_apart(carriages, one, other) != due:
                    self.tells(due, towns_apart, carriages, one, other)
            self.tells(stretch_of(ship_tellings(carriages), 1), towns_apart, carriages, 0, 1)

    def test_carriages_that_do_not_agree(self):
        for carriages in QUARRELS:
            for one, other in ((0, 1), (2, 2), (5, 0)):
                self.refuses(Apart, towns_apart, carriages, one, other)

    def test_by_name(self):
        self.tells(((-3, 1), (16, 3)), towns_apart, other=1, one=0, carriages=(CARRIAGE,))


class Refusals(Case):
    def test_what_is_no_carriage(self):
        for wrong in NO_CARRIAGE:
            self.refuses(NoCarriage, carriage_telling, wrong)
        self.refuses(NoCarriage, carriage_telling, carriage=None)

    def test_what_are_no_carriages(self):
        for wrong in NO_CARRIAGES:
            self.refuses(NoCarriage, ship_tellings, wrong)
            self.refuses(NoCarriage, doubted, wrong)
            self.refuses(NoCarriage, towns_apart, wrong, 0, 1)
            self.refuses(NoCarriage, towns_apart, wrong, None, None)
            self.refuses(NoCarriage, towns_apart, other=6, one=6, carriages=wrong)

    def test_what_is_no_clock_s_number(self):
        for wrong in NO_NUMBERS:
            for carriages in ((), (CARRIAGE,), (STILL, OTHERWISE)):
                self.refuses(NoNumber, towns_apart, carriages, wrong, 1)
                self.refuses(NoNumber, towns_apart, carriages, 1, wrong)
                self.refuses(NoNumber, towns_apart, carriages, wrong, wrong)

    def test_what_stands_further_to_the_left_is_refused_first(self):
        self.refuses(NoCarriage, towns_apart, None, None, None)
        self.refuses(NoNumber, towns_apart, (STILL, OTHERWISE), 6, 0)
        self.refuses(NoNumber, towns_apart, (STILL, OTHERWISE), 0, 6)
        self.refuses(NoPart, Ship, (5, 1), ())
        self.refuses(NoPart, Ship, None, (5, 1))


class WhatIsTold(Case):
    def test_what_was_told_is_handed_in_again_however_long(self):
        far = (1, 1)
        for _ in range(60):
            far = times(far, (LONG, 7 ** 40))
        ship = Ship(less((0, 1), far), far)
        ship.leaves(0, far)
        told = ship.comes(1, less((0, 1), far), far)
        self.assertTrue(told == due_carried(ship.sailed()[0]))
        self.assertTrue(towns_apart(ship.sailed(), 0, 1) == told[2:])
        low, high = told[2:]
        ship.leaves(1, high)
        ship.comes(0, added(far, low), far)
        self.assertEqual(len(ship_tellings(ship.sailed())), 2)
        there, home = ship.sailed()
        self.assertTrue(round_gain(there, home) == due_round(there, home))

    def test_a_ship_s_carriages_are_carriages(self):
        ship = ship_of(TEN_CARRIAGES)
        self.assertTrue(all([is_carriage(carriage) for carriage in ship.sailed()]))
        self.assertEqual(len(ship_tellings(ship.sailed())), 10)
        for thing in (WIDE_TEXT, TELLING):
            self.assertIs(is_carriage(thing), False)


class Interface(unittest.TestCase):
    def test_defined_in_this_file(self):
        for thing in (Ship, carriage_telling, doubted, is_carriage, round_gain, ship_tellings, towns_apart):
            self.assertEqual(thing.__module__, "gunclocks.ships")

    def test_methods_stand_in_their_class(self):
        for name in ("__init__", "leaves", "comes", "sailed", "__len__", "__eq__", "__repr__"):
            self.assertIn(name, vars(Ship))
