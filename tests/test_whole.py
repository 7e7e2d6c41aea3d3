"""0.2, 0.3 and what holds between the files of the whole program."""

import importlib
import inspect
import unittest
from fractions import Fraction
from itertools import product
from random import Random

from gunclocks.clocks import drift, is_clock, moments_of, shown_at, skipped, turned_back
from gunclocks.desk import Desk
from gunclocks.lies import (
    Quarrel, all_fewest, best_quarrel, blamed, cleared, fewest_false, is_false_set, kept_by, surely_false,
)
from gunclocks.offers import best_offer, binding, needless, reason_for, reason_holds, worst_of
from gunclocks.parts import added, is_part, less, times
from gunclocks.post import Post
from gunclocks.ships import Ship, doubted, ship_tellings, towns_apart
from gunclocks.signals import Air, Log, telling_by
from gunclocks.stretches import agree, paper_holds, ring_of, stretch_of, stretch_paper
from gunclocks.tellings import are_tellings, first_broken, is_ring, is_telling, way_of
from gunclocks.texts import part_read, part_shown, telling_read, telling_shown, tellings_read, tellings_shown
from tests.reckoning import as_part, do_agree, line_of, many_tellings, part_from, some_tellings
from tests.support import BALL, CARRIAGE, CLOCK, GAINS, GUN, LONG, ROW, SIGNALS, SIXTEEN, TELLING, WIRE, Case, kinds

STILL = ((0, 1),) * 6
HOME = (1, 0, (4, 1), (1, 1), (5, 1), (-1, 2), (1, 3))
RING_TOLD = (TELLING, (1, 0, (1, 1), None))
RING = (0, ((1, -1), (0, -1)))
AROUND = ((0, 1, (1, 1), None), (1, 2, (1, 1), None), (2, 0, (1, 1), None))
AROUND_RING = (0, ((2, -1), (1, -1), (0, -1)))


def log_told():
    log = Log(Air((1, 5), (1, 3)))
    for signal in SIGNALS[:5]:
        log.put(signal)
    return log


def ship_under_way():
    ship = Ship((-1, 2), (1, 3))
    ship.leaves(0, (5, 1))
    return ship


def post_told():
    post = Post(GAINS)
    post.tells((2, 1), 0, 1, (3, 1), (5, 1))
    post.sets(1, (1, 1), (-4, 1))
    return post


# Of each function: its file, its name, what stands in the interface between its brackets, and what is handed in.
FUNCTIONS = [
    ("parts", "is_part", "thing", [(1, 2)]), ("parts", "part_of", "top, bottom", [6, -4]),
    ("parts", "added", "one, other", [(1, 2), (1, 3)]), ("parts", "less", "one, other", [(1, 2), (1, 3)]),
    ("parts", "times", "one, other", [(1, 2), (2, 3)]), ("parts", "is_less", "one, other", [(1, 3), (1, 2)]),
    ("clocks", "is_clock", "thing", [CLOCK]), ("clocks", "drift", "clock, moment", [CLOCK, (3, 2)]),
    ("clocks", "shown_at", "clock, moment, error=None", [CLOCK, (3, 2), (1, 7)]),
    ("clocks", "moments_of", "clock, hour, error=None", [CLOCK, (22, 1), (1, 7)]),
    ("clocks", "turned_back", "clock, error=None", [CLOCK, (1, 7)]),
    ("clocks", "skipped", "clock, error=None", [CLOCK, (1, 7)]),
    ("signals", "is_signal", "thing", [GUN]), ("signals", "lag_of", "signal, air", [GUN, Air((1, 5), (1, 3))]),
    ("signals", "telling_by", "signal, air", [WIRE, Air((1, 5))]),
    ("tellings", "is_telling", "thing", [TELLING]), ("tellings", "are_tellings", "thing", [(TELLING,)]),
    ("tellings", "first_broken", "tellings, row", [SIXTEEN, ROW]),
    ("tellings", "way_of", "tellings, clock, thing", [(TELLING,), 0, ((0, 1),)]),
    ("tellings", "is_ring", "tellings, thing", [RING_TOLD, RING]),
    ("stretches", "agree", "tellings", [SIXTEEN]), ("stretches", "ring_of", "tellings", [RING_TOLD]),
    ("stretches", "stretch_of", "tellings, clock, other=0", [SIXTEEN, 2, 1]),
    ("stretches", "stretch_paper", "tellings, clock", [SIXTEEN, 2]),
    ("stretches", "paper_holds", "tellings, clock, thing", [SIXTEEN, 2, stretch_paper(SIXTEEN, 2)]),
    ("lies", "is_false_set", "tellings, thing", [AROUND, (1,)]), ("lies", "fewest_false", "tellings", [AROUND]),
    ("lies", "surely_false", "tellings", [RING_TOLD]), ("lies", "all_fewest", "tellings", [AROUND]),
    ("lies", "best_quarrel", "tellings", [AROUND]), ("lies", "blamed", "tellings", [AROUND]),
    ("lies", "cleared", "tellings, lies", [AROUND, (1,)]), ("lies", "kept_by", "tellings, row", [SIXTEEN, ROW]),
    ("offers", "worst_of", "tellings, clocks", [SIXTEEN, (1, 2)]),
    ("offers", "binding", "tellings, clock", [AROUND[:2], 2]),
    ("offers", "needless", "tellings", [SIXTEEN]),
    ("offers", "best_offer", "tellings, offers, clocks", [AROUND[:2], (TELLING, (0, 1, None, (2, 1))), (1,)]),
    ("offers", "reason_for", "tellings, offer, clocks, width=None", [SIXTEEN[:9], (0, 1, (0, 1), None), (1,), (1, 9)]),
    ("offers", "reason_holds", "tellings, offer, clocks, width, thing",
     [AROUND[:2], AROUND[2], (1, 2), (1, 9), ("ring", AROUND_RING)]),
    ("ships", "is_carriage", "thing", [CARRIAGE]), ("ships", "carriage_telling", "carriage", [CARRIAGE]),
    ("ships", "ship_tellings", "carriages", [(CARRIAGE, HOME)]),
    ("ships", "round_gain", "there, home", [CARRIAGE, HOME]),
    ("ships", "doubted", "carriages", [(CARRIAGE, HOME)]),
    ("ships", "towns_apart", "carriages, one, other", [(CARRIAGE,), 1, 0]),
    ("texts", "part_shown", "part", [(-3, 4)]), ("texts", "telling_shown", "telling", [TELLING]),
    ("texts", "tellings_shown", "tellings", [SIXTEEN]), ("texts", "part_read", "text", ["-3/4"]),
    ("texts", "telling_read", "text", ["0>2 -1/2 *"]), ("texts", "tellings_read", "text", ["0>2 -1/2 *; 1>0 * 5"]),
    ("errors", "TooMany", "many, most", [11, 10]), ("errors", "NoText", "at", [3]),
    ("signals", "Air", "slow, fast=None", [(1, 5), (1, 3)]), ("signals", "Log", "air", [Air((1, 5))]),
    ("lies", "Quarrel", "tellings, rings=None", [RING_TOLD, [RING]]),
    ("ships", "Ship", "least, most=None", [(-1, 2), (1, 3)]), ("post", "Post", "gains", [GAINS]),
    ("desk", "Desk", "gains", [GAINS]),
]
# Of each method likewise, behind what makes an object that has it.
METHODS = [
    (lambda: Air((1, 5), (1, 3)), "lag", "far", [(1, 2)]),
    (log_told, "put", "signal", [BALL]), (log_told, "heard", "", []), (log_told, "all_told", "", []),
    (log_told, "from_to", "sender=None, hearer=None", [2, 3]),
    (lambda: Quarrel(RING_TOLD, [RING]), "all_rings", "", []), (lambda: Quarrel(RING_TOLD, [RING]), "held", "", []),
    (lambda: Quarrel(RING_TOLD), "with_ring", "ring", [RING]),
    (lambda: Ship((0, 1)), "leaves", "clock, ahead", [3, (1, 2)]),
    (ship_under_way, "comes", "clock, ahead, days", [1, (3, 1), (10, 1)]), (ship_under_way, "sailed", "", []),
    (post_told, "tells", "moment, one, other, low=None, high=None", [(5, 2), 1, 2, (0, 1), (1, 1)]),
    (post_told, "sets", "clock, moment, jump", [3, (5, 2), (1, 7)]), (post_told, "calls_false", "number", [0]),
    (post_told, "back", "", []), (post_told, "stretch_at", "clock, moment=None", [1, (3, 1)]),
    (post_told, "standing", "", []), (post_told, "clock_now", "clock", [1]), (post_told, "narrowed", "", []),
    (post_told, "error_by", "clock, moment, hour", [1, (2, 1), (52, 1)]),
    (lambda: Desk(GAINS), "say", "line", ["tells 2 0 1 3 5"]),
]


def named_in(listed):
    """The names and the defaults that the interface lists, defaults as they are written."""
    pairs = [each.partition("=") for each in listed.split(", ") if each]
    return [(name, None if equals == "" else default) for name, equals, default in pairs]


def named_by(call):
    empty = inspect.Parameter.empty
    listed = inspect.signature(call).parameters.values()
    return [(each.name, None if each.default is empty else repr(each.default)) for each in listed]


def answer(thing):
    """What may be compared of an answer."""
    if isinstance(thing, Exception):
        return (type(thing).__name__, vars(thing))
    if isinstance(thing, (Air, Log, Quarrel, Ship, Post, Desk)):
        return (type(thing).__name__, repr(thing))
    return kinds(thing)


def behind(thing):
    """All that an object tells where it may have changed."""
    if isinstance(thing, Post):
        return (repr(thing), thing.standing(), thing.narrowed())
    if isinstance(thing, Desk):
        return (repr(thing), thing.say("standing"))
    return repr(thing)


class ByName(Case):
    def look_at_function(self, file, name, listed, handed):
        call = getattr(importlib.import_module("gunclocks." + file), name)
        names = [each for each, _ in named_in(listed)]
        self.assertEqual(named_by(call), named_in(listed), name)
        due = answer(call(*handed))
        for order in (1, -1):
            self.assertEqual(answer(call(**dict(list(zip(names, handed))[::order]))), due, name)
        for many in range(len(handed)):
            named = dict(list(zip(names, handed))[many:][::-1])
            self.assertEqual(answer(call(*handed[:many], **named)), due, name)

    def test_functions_and_classes(self):
        for file, name, listed, handed in FUNCTIONS:
            with self.subTest(name=name):
                self.look_at_function(file, name, listed, handed)

    def test_methods(self):
        for make, name, listed, handed in METHODS:
            with self.subTest(name=name):
                names = [each for each, _ in named_in(listed)]
                self.assertEqual(named_by(getattr(make(), name)), named_in(listed))
                one, other = make(), make()
                told = getattr(one, name)(*handed)
                self.assertEqual(answer(getattr(other, name)(**dict(list(zip(names, handed))[::-1]))), answer(told))
                self.assertEqual(behind(one), behind(other))

    def test_what_may_be_left_out(self):
        left = {"None": None, "0": 0}
        for file, name, listed, handed in FUNCTIONS:
            call = getattr(importlib.import_module("gunclocks." + file), name)
            self.look_without(call, listed, handed, left)
        for make, name, listed, handed in METHODS:
            if name != "tells":
                self.look_without(getattr(make(), name), listed, handed, left)

    def look_without(self, call, listed, handed, left):
        named = named_in(listed)
        needed = [worth for (_, default), worth in zip(named, handed) if default is None]
        told = [left[default] for _, default in named if default is not None]
        if told:
            due = answer(call(*needed, *told))
            self.assertEqual(answer(call(*needed)), due)
            for (name, default), worth in zip(named, handed):
                if default is not None:
                    self.assertEqual(answer(call(*needed, **{name: left[default]})), due)

    def test_tells_without_a_bound(self):
        for bounds, due in (({"low": (1, 1)}, ((1, 1), None)), ({"high": (2, 1)}, (None, (2, 1)))):
            post = Post(STILL)
            self.assertEqual(post.tells(other=2, one=1, moment=(1, 1), **bounds), 0)
            self.assertEqual(post.standing(), [(0, (1, 2) + due)])

    def test_each_is_defined_in_its_file(self):
        for file, name, _, _ in FUNCTIONS:
            thing = getattr(importlib.import_module("gunclocks." + file), name)
            self.assertEqual(thing.__module__, "gunclocks." + file)
        for make, name, _, _ in METHODS:
            self.assertIn(name, vars(type(make())))


class Exchanged:
    """Tellings in another order, some told the other way about, the clocks but 0 by other numbers."""

    def __init__(self, chance, tellings):
        self.clocks = [0] + chance.sample(range(1, 6), 5)
        self.order = chance.sample(range(len(tellings)), len(tellings))
        self.about = [chance.randint(0, 1) == 1 for _ in tellings]
        self.tellings = tuple([self.telling(tellings[number], self.about[number]) for number in self.order])

    def telling(self, telling, about):
        one, other, low, high = telling
        one, other = self.clocks[one], self.clocks[other]
        if about:
            turned = [None if end is None else less((0, 1), end) for end in (high, low)]
            return (other, one, *turned)
        return (one, other, low, high)

    def numbers(self, numbers):
        return tuple(sorted([self.order.index(number) for number in numbers]))

    def watched(self, clocks):
        return tuple(sorted([self.clocks[clock] for clock in clocks]))

    def way(self, way):
        return tuple([(self.order.index(number), -sign if self.about[number] else sign) for number, sign in way])

    def ring(self, ring):
        return (self.clocks[ring[0]], self.way(ring[1]))

    def row(self, row):
        found = [None] * 6
        for clock in range(6):
            found[self.clocks[clock]] = row[clock]
        return tuple(found)


class OtherNumbers(Case):
    def test_tellings_that_agree(self):
        chance = Random(91)
        told = [tellings for tellings in many_tellings(92, 50, 10) if do_agree(tellings)]
        self.assertGreater(len(told), 40)
        for tellings in told:
            other = Exchanged(chance, tellings)
            self.assertIs(agree(other.tellings), True)
            self.look_at_stretches(tellings, other)
            self.look_at_offers(chance, tellings, other)

    def look_at_stretches(self, tellings, other):
        for clock, base in product(range(6), repeat=2):
            due = stretch_of(tellings, clock, base)
            self.assertEqual(stretch_of(other.tellings, other.clocks[clock], other.clocks[base]), due)
        for clock in range(1, 6):
            down, up, least, most = stretch_paper(tellings, clock)
            ways = [None if way is None else other.way(way) for way in (down, up)]
            shown = [other.watched(end) if way is None else other.row(end) for way, end in ((down, least), (up, most))]
            self.assertIs(paper_holds(other.tellings, other.clocks[clock], (*ways, *shown)), True)
            self.assertEqual(binding(other.tellings, other.clocks[clock]), other.numbers(binding(tellings, clock)))
        self.assertEqual(needless(other.tellings), other.numbers(needless(tellings)))

    def look_at_offers(self, chance, tellings, other):
        offers = some_tellings(chance, 4, 6, 4, 3, 2)
        exchanged = tuple([other.telling(offer, chance.randint(0, 1) == 1) for offer in offers])
        for clocks in ((1,), (2, 3), (1, 2, 3, 4, 5)):
            watched = other.watched(clocks)
            self.assertEqual(worst_of(other.tellings, watched), worst_of(tellings, clocks))
            self.assertEqual(best_offer(other.tellings, exchanged, watched), best_offer(tellings, offers, clocks))
            for offer, turned, width in zip(offers, exchanged, (None, (1, 1), (3, 1), (0, 1))):
                reason = reason_for(other.tellings, turned, watched, width)
                self.assertEqual(reason is None, reason_for(tellings, offer, clocks, width) is None)

    def test_tellings_whether_or_not_they_agree(self):
        chance = Random(93)
        for tellings in many_tellings(94, 50, 10):
            other = Exchanged(chance, tellings)
            self.assertIs(agree(other.tellings), agree(tellings))
            self.look_at_lies(tellings, other)
            ring = ring_of(tellings)
            if ring is not None:
                self.assertIs(is_ring(other.tellings, other.ring(ring)), True)
                self.assertEqual(way_of(other.tellings, *other.ring(ring))[1], way_of(tellings, *ring)[1])

    def look_at_lies(self, tellings, other):
        due = [other.numbers(numbers) for numbers in all_fewest(tellings)]
        self.assertEqual(all_fewest(other.tellings), sorted(due))
        self.assertEqual(surely_false(other.tellings), other.numbers(surely_false(tellings)))
        self.assertEqual(tuple([blamed(tellings)[number] for number in other.order]), blamed(other.tellings))
        self.assertEqual(len(best_quarrel(other.tellings)), len(best_quarrel(tellings)))
        self.assertEqual(kept_by(other.tellings, other.row(ROW)), other.numbers(kept_by(tellings, ROW)))
        self.assertIs(first_broken(other.tellings, other.row(ROW)) is None, first_broken(tellings, ROW) is None)
        lies = fewest_false(tellings)
        self.assertIs(is_false_set(other.tellings, other.numbers(lies)), True)
        self.assertEqual(len(cleared(other.tellings, other.numbers(lies))), len(cleared(tellings, lies)))

    def test_carriages(self):
        chance = Random(95)
        for _ in range(60):
            carriages = tuple([some_carriage(chance) for _ in range(chance.randint(0, 8))])
            clocks = [0] + chance.sample(range(1, 6), 5)
            order = chance.sample(range(len(carriages)), len(carriages))
            others = tuple([(clocks[carriages[at][0]], clocks[carriages[at][1]]) + carriages[at][2:] for at in order])
            self.assertEqual(doubted(others), tuple(sorted([order.index(number) for number in doubted(carriages)])))
            if agree(ship_tellings(carriages)):
                for one, other in product(range(6), repeat=2):
                    due = towns_apart(carriages, one, other)
                    self.assertEqual(towns_apart(others, clocks[one], clocks[other]), due)

    def test_posts(self):
        chance = Random(96)
        for _ in range(30):
            clocks = [0] + chance.sample(range(1, 6), 5)
            gains = tuple([(0, 1)] + [as_part(part_from(chance, 12)) for _ in range(5)])
            exchanged = [None] * 6
            for clock in range(6):
                exchanged[clocks[clock]] = gains[clock]
            one, other = Post(gains), Post(tuple(exchanged))
            for clock, moment, jump in some_sets(chance):
                one.sets(clock, moment, jump)
                other.sets(clocks[clock], moment, jump)
            for moment, first, second, low, high in tree_tellings(chance):
                one.tells(moment, first, second, low, high)
                other.tells(moment, clocks[second], clocks[first], less((0, 1), high), less((0, 1), low))
            for clock, moment in product(range(6), ((0, 1), (3, 2), (5, 1))):
                self.assertEqual(one.stretch_at(clock, moment), other.stretch_at(clocks[clock], moment))
                self.assertEqual(one.clock_now(clock), other.clock_now(clocks[clock]))
            narrowed = sorted([(clocks[clock], before, after) for clock, before, after in one.narrowed()])
            self.assertEqual(other.narrowed(), narrowed)


def some_carriage(chance):
    one, other = chance.sample(range(4), 2)
    left, came, least = part_from(chance, 2), part_from(chance, 2), part_from(chance, 1)
    days, wide = abs(part_from(chance, 4)), abs(part_from(chance, 2))
    return (one, other, *[as_part(worth) for worth in (left, came, days, least, least + wide)])


def some_sets(chance):
    """Sets of some clocks, at unlike moments."""
    found = {}
    for _ in range(chance.randint(0, 10)):
        moment = as_part(abs(part_from(chance, 4)))
        found[chance.randint(1, 5), moment] = as_part(part_from(chance, 3) or Fraction(1, 7))
    sets = [(clock, moment, jump) for (clock, moment), jump in found.items()]
    return [each for each in sets if len([1 for other in sets if other[0] == each[0]]) <= 6]


def tree_tellings(chance):
    """Tellings of each clock and one of a lesser number: however they are moved, they agree."""
    found = []
    for clock in range(1, 6):
        low = part_from(chance, 3)
        ends = [as_part(low), as_part(low + abs(part_from(chance, 2)))]
        found.append((as_part(abs(part_from(chance, 4))), chance.randint(0, clock - 1), clock, *ends))
    return found


class ToldLate(Case):
    def test_a_post_told_late_is_as_if_told_in_time(self):
        chance = Random(97)
        for _ in range(60):
            gains = tuple([(0, 1)] + [as_part(part_from(chance, 12)) for _ in range(5)])
            sets = sorted([("sets", *each) for each in some_sets(chance)], key=lambda deed: Fraction(*deed[2]))
            deeds = sets + [("tells", *each) for each in tree_tellings(chance)]
            # Tellings keep their order, as their numbers hang on it; sets come anywhere among them.
            late = [deed for deed in deeds if deed[0] == "tells"]
            for deed in chance.sample(sets, len(sets)):
                late.insert(chance.randint(0, len(late)), deed)
            in_time, told_late = Post(gains), Post(gains)
            for post, row in ((in_time, deeds), (told_late, late)):
                for kind, *handed in row:
                    {"sets": post.sets, "tells": post.tells}[kind](*handed)
            self.assertTrue(in_time == told_late)
            self.assertEqual(repr(in_time), repr(told_late))
            for clock, moment in product(range(6), ((0, 1), (3, 2), (4, 1))):
                self.assertEqual(in_time.stretch_at(clock, moment), told_late.stretch_at(clock, moment))
                self.assertEqual(in_time.clock_now(clock), told_late.clock_now(clock))

    def test_tellings_of_moments_in_any_order(self):
        chance = Random(98)
        for _ in range(40):
            tellings = tree_tellings(chance)
            sets = some_sets(chance)
            posts = []
            for order in (tellings, tellings[::-1], chance.sample(tellings, 5)):
                post = Post(GAINS)
                for each in order:
                    post.tells(*each)
                for each in sets:
                    post.sets(*each)
                posts.append(post)
            for post in posts[1:]:
                for clock in range(6):
                    self.assertEqual(post.stretch_at(clock, (3, 2)), posts[0].stretch_at(clock, (3, 2)))
                due = sorted([kinds(telling) for _, telling in posts[0].standing()], key=repr)
                self.assertEqual(sorted([kinds(telling) for _, telling in post.standing()], key=repr), due)


class DeskAndPost(Case):
    def test_a_desk_answers_as_a_post(self):
        chance = Random(99)
        for _ in range(30):
            gains = tuple([(0, 1)] + [as_part(part_from(chance, 12)) for _ in range(5)])
            desk, post = Desk(gains), Post(gains)
            for clock, moment, jump in some_sets(chance):
                self.assertEqual(desk.say(line_of(("sets", clock, moment, jump))), "ok")
                post.sets(clock, moment, jump)
            for each in tree_tellings(chance):
                self.assertEqual(desk.say(line_of(("tells", *each))), str(post.tells(*each)))
            shown = [f"{number} {telling_shown(telling)}" for number, telling in post.standing()]
            self.assertEqual(desk.say("standing"), "; ".join(shown))
            for clock in range(6):
                ends = ["*" if end is None else part_shown(end) for end in post.stretch_at(clock, (7, 3))]
                self.assertEqual(desk.say(f"stretch {clock} 7/3"), " ".join(ends))
                self.assertEqual(len(desk.say(f"clock {clock}").split("; ")), 1 + len(post.clock_now(clock)[1]))

    def test_lines_that_stand_make_another_desk_alike(self):
        lines = ["tells 2 0 1 3 5", "sets 1 1 -4", "false 0", "tells 3 1 2 -1 *", "sets 2 7/3 1/2"]
        one, other = Desk(GAINS), Desk(GAINS)
        for line in lines[:3] + ["sets 5 1 1", "back", "standing", "back", "false 0"] + lines[3:]:
            one.say(line)
        for line in lines:
            other.say(line)
        self.assertTrue(one == other)
        self.assertEqual((len(one), len(other)), (5, 5))
        for line in ("standing", "narrowed", "clock 1", "clock 2", "stretch 1 1", "stretch 2 5", "tells 0 0 1 1 *"):
            self.assertEqual(one.say(line), other.say(line))


class BetweenTheFiles(Case):
    def test_signals_to_stretches_to_offers_to_texts(self):
        log = log_told()
        told = log.all_told()
        self.assertTrue(are_tellings(told))
        self.assertEqual(tellings_read(tellings_shown(told)), told)
        offer = telling_by(("wire", 0, 3, (1, 1), (2, 1), (0, 1), (1, 2)), Air((1, 3)))
        self.assertEqual(best_offer(told, (offer,), (1, 2, 3)), (0, worst_of(told + (offer,), (1, 2, 3))))
        for clock in range(6):
            for end in stretch_of(told + (offer,), clock):
                if end is not None:
                    self.assertEqual(part_read(part_shown(end)), end)

    def test_ships_to_a_post(self):
        ship = Ship((-1, 2), (1, 3))
        post = Post(STILL)
        for one, other in ((0, 1), (1, 2), (2, 3)):
            ship.leaves(one, (5, 1))
            telling = ship.comes(other, (3, 1), (10, 1))
            post.tells((0, 1), *telling)
            self.assertEqual(telling_read(telling_shown(telling)), telling)
        tellings = ship_tellings(ship.sailed())
        self.assertEqual([telling for _, telling in post.standing()], list(tellings))
        for clock in range(6):
            self.assertEqual(towns_apart(ship.sailed(), 0, clock), post.stretch_at(clock))

    def test_a_post_to_clocks(self):
        post = post_told()
        clock = post.clock_now(1)
        self.assertTrue(is_clock(clock))
        self.assertEqual(turned_back(clock), [((41, 2), (49, 2))])
        self.assertEqual(skipped(clock), [])
        low, high = post.stretch_at(1)
        for moment in ((0, 1), (1, 1), (5, 2)):
            due = tuple([added(end, drift(clock, moment)) for end in (low, high)])
            self.assertEqual(post.stretch_at(1, moment), due)
            hour = shown_at(clock, moment, low)
            self.assertEqual(post.error_by(1, moment, hour), due[0])
            self.assertIn(moment, moments_of(clock, hour, low))

    def test_a_post_to_lies_and_offers(self):
        post = post_told()
        post.tells((1, 1), 1, 2, (0, 1), (1, 1))
        tellings = tuple([telling for _, telling in post.standing()])
        self.assertEqual(all_fewest(tellings), [()])
        worse = tellings + ((0, 2, (50, 1), None),)
        self.assertIs(agree(worse), False)
        reason = reason_for(tellings, worse[-1], (1, 2))
        self.assertEqual(reason[0], "ring")
        self.assertTrue(is_ring(worse, reason[1]))
        self.assertEqual(len(Quarrel(worse, [reason[1]])), 1)
        self.assertTrue(Quarrel(worse).with_ring(ring_of(worse)) == Quarrel(worse, [ring_of(worse)]))

    def test_papers_to_reasons(self):
        offer = (0, 1, (0, 1), (1, 1))
        for told in ((), ((0, 2, (1, 2), None),), ((2, 1, None, (1, 3)), (0, 2, (-9, 1), (9, 1)))):
            down, up, least, most = stretch_paper(told + (offer,), 1)
            self.assertTrue(reason_holds(told, offer, (1,), (1, 2), ("wide", 1, least, most)))
            down, up, least, most = stretch_paper(told + (offer,), 3)
            self.assertTrue(reason_holds(told, offer, (1, 3), None, ("free", 3, "high", most)))
            self.assertTrue(reason_holds(told, offer, (1, 3), None, ("free", 3, "low", least)))

    def test_however_long_the_numbers(self):
        far = (1, 1)
        for _ in range(40):
            far = times(far, (LONG, 7 ** 40))
        air = Air(far, added(far, far))
        telling = telling_by(("gun", 0, 1, (0, 1), far, far), air)
        self.assertTrue(is_telling(telling))
        ship = Ship(far)
        ship.leaves(1, telling[2])
        carried = ship.comes(2, telling[3], far)
        post = Post(GAINS)
        post.tells(far, *telling)
        post.tells((1, LONG), *carried)
        post.sets(1, far, far)
        tellings = tuple([each for _, each in post.standing()])
        for clock in range(6):
            self.assertTrue(stretch_of(tellings, clock) == post.stretch_at(clock))
            self.assertTrue(is_clock(post.clock_now(clock)))
        self.assertTrue(is_part(worst_of(tellings, (1, 2))))
        self.assertIs(paper_holds(tellings, 2, stretch_paper(tellings, 2)), True)
        reason = reason_for(tellings, telling, (1, 2), (0, 1))
        self.assertIs(reason_holds(tellings, telling, (1, 2), (0, 1), reason), True)


if __name__ == "__main__":
    unittest.main()
