"""0.2, 0.3 and 7.1 to 7.4, as far as they speak of gunclocks/post.py."""

import unittest
from copy import deepcopy
from fractions import Fraction
from itertools import permutations, product
from random import Random

from gunclocks import errors
from gunclocks.clocks import drift, is_clock, shown_at
from gunclocks.errors import (
    Apart, Missing, NoClock, NoDeed, NoHour, NoMoment, NoNumber, NoPart, NoTelling, Twice,
)
from gunclocks.parts import added, times
from gunclocks.post import Post
from gunclocks.stretches import agree, stretch_of
from gunclocks.tellings import are_tellings
from tests.reckoning import PlainPost, as_part, part_from, some_deed
from tests.support import (
    CLOCK, GAINS, LONG, NO_CLOCKS, NO_ERRORS, NO_GAINS, NO_JUMPS, NO_MISSING, NO_MOMENTS, NO_NUMBERS, NO_PARTS, PARTS,
    SIX_SETS, TELLING, Case, kinds,
)

STILL = ((0, 1),) * 6
NO_ERRING = NO_NUMBERS + [0]
MOMENTS = [(0, 1), (1, 2), (1, 1), (7, 3), (100, 1), (1, LONG), (LONG, 1)]


def picture(post):
    """All that a post tells."""
    return kinds((
        len(post), repr(post), post.standing(), post.narrowed(), [post.clock_now(clock) for clock in range(6)],
        [post.stretch_at(clock, moment) for clock in range(6) for moment in ((0, 1), (7, 3))],
    ))


def post_of(*deeds, gains=GAINS):
    """A post of these gains behind these deeds, each told as (name, what is handed in ..)."""
    post = Post(gains)
    for name, *handed in deeds:
        DEEDS[name](post, *handed)
    return post


DEEDS = {"tells": Post.tells, "sets": Post.sets, "false": Post.calls_false, "back": Post.back}
# The clock 1 gains 1/2 by the day, 2 loses 1/3: behind two days they are 1 ahead and 2/3 behind.
FIRST = ("tells", (2, 1), 0, 1, (3, 1), (5, 1))
SECOND = ("tells", (3, 1), 1, 2, (-1, 1), None)
SET = ("sets", 1, (1, 1), (-4, 1))
SIX = tuple([("sets", 3, moment, jump) for moment, jump in SIX_SETS])


class PostMade(Case):
    def test_of_gains(self):
        for gain in [(0, 1), (12, 1), (-12, 1), (23, 2), (12 * LONG - 1, LONG), (1, LONG)]:
            gains = ((0, 1), gain, (1, 2), gain, (0, 1), gain)
            post = Post(gains)
            self.assertEqual([post.clock_now(clock) for clock in range(6)], [(each, ()) for each in gains])
            self.assertEqual((len(post), post.standing(), post.narrowed()), (0, [], []))

    def test_nothing_else(self):
        for wrong in NO_GAINS + NO_CLOCKS:
            self.refuses(NoClock, Post, wrong)
        self.refuses(NoClock, Post, gains=None)

    def test_by_name(self):
        self.assertTrue(Post(gains=GAINS) == Post(GAINS))

    def test_each_post_keeps_its_own(self):
        one, other = Post(GAINS), Post(GAINS)
        one.tells(*FIRST[1:])
        one.sets(*SET[1:])
        self.assertEqual(picture(other), picture(Post(GAINS)))


class Tells(Case):
    def test_ordinary(self):
        post = Post(GAINS)
        self.assertEqual(kinds(post.tells((2, 1), 0, 1, (3, 1), (5, 1))), kinds(0))
        self.tells([(0, (0, 1, (2, 1), (4, 1)))], post.standing)
        self.assertEqual(post.tells((3, 1), 1, 2, (-1, 1)), 1)
        # In three days 2 has come 5/2 behind 1.
        self.tells([(0, (0, 1, (2, 1), (4, 1))), (1, (1, 2, (3, 2), None))], post.standing)
        self.assertEqual(post.tells((0, 1), 2, 1, None, (9, 1)), 2)
        self.tells([(2, 1, None, (9, 1))], lambda: [telling for _, telling in post.standing()[2:]])

    def test_bounds_may_be_left_out(self):
        post = Post(STILL)
        post.tells((1, 1), 0, 1, (1, 1))
        post.tells((1, 1), 0, 1, high=(5, 1))
        post.tells((1, 1), 0, 1, None, (6, 1))
        post.tells(moment=(1, 1), one=0, other=1, low=(1, 2))
        post.tells(high=(7, 1), low=(0, 1), other=1, one=0, moment=(1, 1))
        due = [((1, 1), None), (None, (5, 1)), (None, (6, 1)), ((1, 2), None), ((0, 1), (7, 1))]
        self.tells([(number, (0, 1) + ends) for number, ends in enumerate(due)], post.standing)

    def test_all_pairs_of_clocks(self):
        for one, other in product(range(6), repeat=2):
            if one != other:
                post = Post(GAINS)
                self.assertEqual(post.tells((3, 1), one, other, (-1, 2), (1, 2)), 0)
                plain = PlainPost(GAINS)
                plain.do(("tells", (3, 1), one, other, (-1, 2), (1, 2)))
                self.tells(plain.standing(), post.standing)

    def test_numbers_are_counted_on(self):
        post = Post(STILL)
        for number in range(5):
            self.assertEqual(post.tells((0, 1), 0, 1, (0, 1)), number)
        post.calls_false(4)
        self.assertEqual(post.tells((0, 1), 0, 1, (0, 1)), 5)
        post.calls_false(0)
        self.assertEqual(post.tells((0, 1), 0, 1, (0, 1)), 6)
        self.assertEqual([number for number, _ in post.standing()], [1, 2, 3, 5, 6])
        # Undone is as if it had not been told.
        post.back()
        self.assertEqual(post.tells((0, 1), 0, 1, (0, 1)), 6)
        post.back()
        post.back()
        post.back()
        self.assertEqual(post.tells((0, 1), 0, 1, (0, 1)), 5)

    def test_ten_stand_at_most(self):
        post = Post(STILL)
        for number in range(10):
            self.assertEqual(post.tells((number, 1), 0, 1, (0, 1), (number, 1)), number)
        before = picture(post)
        self.too_many(11, 10, post.tells, (1, 1), 0, 1, (0, 1), (1, 1))
        # That it would not agree either comes behind.
        self.too_many(11, 10, post.tells, (1, 1), 0, 1, (5, 1), (6, 1))
        self.assertEqual(picture(post), before)
        post.calls_false(3)
        self.assertEqual(post.tells((1, 1), 0, 1, (0, 1)), 10)
        self.too_many(11, 10, post.tells, (1, 1), 0, 1, (0, 1))
        post.back()
        self.assertEqual(post.tells((1, 1), 2, 1, (0, 1)), 10)

    def test_apart(self):
        post = post_of(FIRST)
        before = picture(post)
        self.refuses(Apart, post.tells, (2, 1), 0, 1, (11, 2), None)
        self.refuses(Apart, post.tells, (4, 1), 1, 0, (0, 1), (9, 1))
        self.refuses(Apart, post.tells, (0, 1), 0, 1, None, (2 * LONG - 1, LONG))
        self.assertEqual(picture(post), before)
        self.assertEqual(post.tells((0, 1), 0, 1, None, (2, 1)), 1)
        self.tells(((2, 1), (2, 1)), post.stretch_at, 1)

    def test_apart_around_several_clocks(self):
        post = post_of(FIRST, ("tells", (2, 1), 1, 2, (1, 1), None), gains=STILL)
        before = picture(post)
        self.refuses(Apart, post.tells, (9, 1), 2, 0, (-7, 2), None)
        self.assertEqual(picture(post), before)
        self.assertEqual(post.tells((9, 1), 2, 0, (-4, 1), None), 2)


class Sets(Case):
    def test_ordinary(self):
        post = Post(GAINS)
        self.assertIsNone(post.sets(1, (1, 1), (-3, 1)))
        self.assertIsNone(post.sets(jump=(1, 2), moment=(2, 1), clock=1))
        self.tells(CLOCK, post.clock_now, 1)
        self.tells((GAINS[2], ()), post.clock_now, 2)

    def test_in_any_order(self):
        for order in permutations(SIX_SETS[:4] + (((1, 3), (9, 1)),)):
            post = Post(STILL)
            for moment, jump in order:
                post.sets(5, moment, jump)
            self.assertEqual(post.clock_now(5), ((0, 1), (((1, 3), (9, 1)),) + SIX_SETS[:4]))
        # By what the moments stand for, not as tuples rise.
        post = Post(STILL)
        for moment in ((1, 2), (2, 5), (5, 3), (LONG, 1), (3, 2), (1, LONG)):
            post.sets(5, moment, (1, 1))
        due = [(1, LONG), (2, 5), (1, 2), (3, 2), (5, 3), (LONG, 1)]
        self.tells(((0, 1), tuple([(moment, (1, 1)) for moment in due])), post.clock_now, 5)
        self.assertTrue(is_clock(post.clock_now(5)))

    def test_a_set_told_late_moves_the_tellings_behind_it(self):
        post = post_of(
            ("tells", (1, 1), 0, 1, (0, 1), (1, 1)), ("tells", (2, 1), 1, 2, (0, 1), (1, 1)),
            ("tells", (3, 1), 2, 1, None, (9, 1)), ("tells", (2, 1), 2, 3, (0, 1), (1, 1)), gains=STILL,
        )
        post.sets(1, (2, 1), (1, 2))
        self.tells([
            (0, (0, 1, (0, 1), (1, 1))), (1, (1, 2, (1, 2), (3, 2))), (2, (2, 1, None, (17, 2))),
            (3, (2, 3, (0, 1), (1, 1))),
        ], post.standing)
        post.sets(2, (5, 2), (-1, 1))
        self.tells((2, (2, 1, None, (15, 2))), lambda: post.standing()[2])
        self.tells((1, (1, 2, (1, 2), (3, 2))), lambda: post.standing()[1])

    def test_the_very_moment_counts(self):
        near = [((2, 1), 1), ((1, 1), 1), ((2 * LONG + 1, LONG), 0), ((2 * LONG - 1, LONG), 1), ((0, 1), 1)]
        for moment, due in near:
            post = post_of(("tells", (2, 1), 0, 1, (0, 1), None), gains=STILL)
            post.sets(1, moment, (1, 1))
            self.tells([(0, (0, 1, (-due, 1), None))], post.standing)

    def test_twice(self):
        post = post_of(SET, ("sets", 1, (5, 2), (1, 1)), FIRST)
        before = picture(post)
        for moment in ((1, 1), (5, 2)):
            for jump in ((-4, 1), (1, 1), (LONG, 1)):
                self.refuses(Twice, post.sets, 1, moment, jump)
        self.assertEqual(picture(post), before)
        self.assertIsNone(post.sets(2, (1, 1), (-4, 1)))
        post.back()
        post.back()
        post.back()
        self.assertIsNone(post.sets(1, (5, 2), (2, 1)))

    def test_six_at_most(self):
        post = post_of(*SIX)
        before = picture(post)
        self.too_many(7, 6, post.sets, 3, (20, 1), (1, 1))
        self.too_many(7, 6, post.sets, 3, (0, 1), (1, 1))
        self.refuses(Twice, post.sets, 3, SIX_SETS[5][0], (1, 1))
        self.assertEqual(picture(post), before)
        for clock in (1, 2, 4, 5):
            self.assertIsNone(post.sets(clock, (20, 1), (1, 1)))
        for _ in range(5):
            post.back()
        self.assertIsNone(post.sets(3, (20, 1), (1, 1)))

    def test_apart(self):
        post = post_of(
            ("tells", (2, 1), 0, 1, (3, 1), (5, 1)), ("tells", (4, 1), 0, 1, (3, 1), (5, 1)), gains=STILL,
        )
        before = picture(post)
        self.refuses(Apart, post.sets, 1, (3, 1), (5, 2))
        self.refuses(Apart, post.sets, 1, (4, 1), (-5, 2))
        self.assertEqual(picture(post), before)
        # Both tellings lie behind this one, or both ahead.
        post.sets(1, (2, 1), (5, 2))
        post.sets(1, (9, 2), (50, 1))
        post.sets(1, (3, 1), (2, 1))
        self.tells(((1, 2), (1, 2)), post.stretch_at, 1)

    def test_apart_comes_last(self):
        post = post_of(*SIX, ("tells", (2, 1), 0, 3, (0, 1), (1, 1)), ("tells", (9, 1), 0, 3, None, (99, 1)))
        self.too_many(7, 6, post.sets, 3, (4, 1), (LONG, 1))
        self.refuses(Twice, post.sets, 3, (1, 2), (LONG, 1))
        post.back()
        post.back()


class CallsFalse(Case):
    def test_it_stands_no_more(self):
        post = post_of(FIRST, SECOND)
        self.assertIsNone(post.calls_false(0))
        self.tells([(1, (1, 2, (3, 2), None))], post.standing)
        self.assertIsNone(post.calls_false(number=1))
        self.tells([], post.standing)
        self.assertEqual(len(post), 0)

    def test_missing(self):
        for post, stand in (
            (Post(GAINS), ()), (post_of(FIRST, SECOND), (0, 1)), (post_of(FIRST, SECOND, ("false", 0)), (1,)),
            (post_of(FIRST, SECOND, ("false", 1), ("back",), ("back",)), (0,)),
        ):
            before = picture(post)
            for wrong in NO_MISSING + [number for number in range(12) if number not in stand]:
                self.refuses(Missing, post.calls_false, wrong)
            self.refuses(Missing, post.calls_false, number=None)
            self.assertEqual(picture(post), before)

    def test_what_it_barred_may_be_told_then(self):
        post = post_of(FIRST)
        self.refuses(Apart, post.tells, (2, 1), 0, 1, (11, 2), None)
        post.calls_false(0)
        self.assertEqual(post.tells((2, 1), 0, 1, (11, 2), None), 1)
        self.refuses(Apart, post.tells, *FIRST[1:])

    def test_all_others_stay(self):
        deeds = [("tells", (at, 1), at % 5, at % 5 + 1, (-at, 1), (at + 9, 1)) for at in range(10)]
        due = post_of(*deeds, gains=STILL).standing()
        for number in range(10):
            post = post_of(*deeds, ("false", number), gains=STILL)
            self.tells(due[:number] + due[number + 1:], post.standing)


class Back(Case):
    def test_undone_one_behind_the_other(self):
        deeds = [FIRST, SET, SECOND, ("sets", 2, (0, 1), (1, 2)), ("false", 0), ("tells", (5, 1), 0, 4, (0, 1)),
                 ("sets", 1, (1, 2), (7, 3)), ("false", 2), ("tells", (0, 1), 5, 1, None, (3, 1))]
        post = post_of(*deeds)
        for many in range(len(deeds), 0, -1):
            self.assertEqual(picture(post), picture(post_of(*deeds[:many])))
            self.assertTrue(post == post_of(*deeds[:many]))
            self.assertIsNone(post.back())
        self.assertEqual(picture(post), picture(Post(GAINS)))
        self.refuses(NoDeed, post.back)

    def test_no_deed_stands(self):
        for deeds in ((), (FIRST,), (SET, FIRST), (FIRST, ("false", 0), SECOND)):
            post = post_of(*deeds)
            for _ in deeds:
                post.back()
            self.refuses(NoDeed, post.back)
            self.assertTrue(post == Post(GAINS))

    def test_back_is_no_deed_to_undo(self):
        post = post_of(FIRST, SECOND, ("back",), ("back",))
        self.refuses(NoDeed, post.back)
        self.assertEqual(len(post), 0)

    def test_what_was_refused_is_no_deed(self):
        post = post_of(FIRST, SET)
        self.refuses(Twice, post.sets, *SET[1:])
        self.refuses(Missing, post.calls_false, 5)
        self.refuses(Apart, post.tells, (0, 1), 0, 1, (99, 1))
        post.back()
        self.assertEqual(picture(post), picture(post_of(FIRST)))

    def test_a_telling_called_false_stands_again(self):
        post = post_of(FIRST, SECOND, ("false", 0), ("back",))
        self.assertEqual(picture(post), picture(post_of(FIRST, SECOND)))


class Questions(Case):
    def test_stretch_at(self):
        post = post_of(FIRST, SET)
        # The set lies ahead of the telling: so it was 8 to 6 less at the beginning.
        self.tells(((6, 1), (8, 1)), post.stretch_at, 1)
        self.tells(((6, 1), (8, 1)), post.stretch_at, 1, None)
        self.tells(((6, 1), (8, 1)), post.stretch_at, 1, (0, 1))
        self.tells(((25, 4), (33, 4)), post.stretch_at, 1, (1, 2))
        self.tells(((5, 2), (9, 2)), post.stretch_at, 1, (1, 1))
        self.tells(((3, 1), (5, 1)), post.stretch_at, moment=(2, 1), clock=1)
        self.tells((None, None), post.stretch_at, 2, (2, 1))
        for moment in MOMENTS:
            self.tells(((0, 1), (0, 1)), post.stretch_at, 0, moment)

    def test_where_an_end_lacks(self):
        post = post_of(("tells", (1, 1), 0, 1, (1, 1)), ("tells", (1, 1), 0, 2, None, (1, 1)))
        self.tells(((1, 2), None), post.stretch_at, 1)
        self.tells(((3, 2), None), post.stretch_at, 1, (2, 1))
        self.tells((None, (4, 3)), post.stretch_at, 2)
        self.tells((None, (2, 3)), post.stretch_at, 2, (2, 1))

    def test_standing(self):
        post = post_of(FIRST, SECOND)
        told = self.ask(post.standing)
        self.assertEqual(kinds(told), kinds([(0, (0, 1, (2, 1), (4, 1))), (1, (1, 2, (3, 2), None))]))
        told.clear()
        self.assertEqual(len(post.standing()), 2)
        self.tells([], Post(GAINS).standing)

    def test_narrowed(self):
        post = Post(STILL)
        self.tells([], post.narrowed)
        post.tells((1, 1), 0, 1, (1, 1))
        self.tells([(1, (None, None), ((1, 1), None))], post.narrowed)
        post.tells((1, 1), 1, 2, (0, 1), (1, 1))
        self.tells([(2, (None, None), ((1, 1), None))], post.narrowed)
        post.tells((1, 1), 0, 2, None, (5, 1))
        self.tells([(1, ((1, 1), None), ((1, 1), (5, 1))), (2, ((1, 1), None), ((1, 1), (5, 1)))], post.narrowed)
        post.tells((1, 1), 0, 2, None, (6, 1))
        self.tells([], post.narrowed)
        post.sets(1, (2, 1), (1, 1))
        self.tells([], post.narrowed)
        post.sets(1, (1, 2), (1, 1))
        self.tells([(1, ((1, 1), (5, 1)), ((0, 1), (4, 1)))], post.narrowed)
        post.calls_false(3)
        self.tells([], post.narrowed)
        post.calls_false(0)
        self.tells([(1, ((0, 1), (4, 1)), (None, (4, 1))), (2, ((1, 1), (5, 1)), (None, (5, 1)))], post.narrowed)
        post.back()
        self.tells([], post.narrowed)
        post.back()
        self.tells([(1, ((1, 1), (5, 1)), ((0, 1), (4, 1)))], post.narrowed)

    def test_narrowed_lists_are_new(self):
        post = post_of(FIRST)
        post.narrowed().clear()
        self.assertEqual(len(post.narrowed()), 1)
        told = Post(GAINS).narrowed()
        told.append(1)
        self.tells([], Post(GAINS).narrowed)

    def test_error_by(self):
        post = post_of(FIRST, SET)
        self.tells((4, 1), post.error_by, 1, (2, 1), (52, 1))
        self.tells((3, 1), post.error_by, 1, (2, 1), (51, 1))
        self.tells((5, 1), post.error_by, hour=(53, 1), moment=(2, 1), clock=1)
        self.tells("no", post.error_by, 1, (2, 1), (51 * LONG - 1, LONG))
        self.tells("no", post.error_by, 1, (2, 1), (53 * LONG + 1, LONG))
        self.tells("no", post.error_by, 1, (1, 1), (24, 1))
        self.tells((5, 2), post.error_by, 1, (1, 1), (53, 2))
        self.tells((-9, 1), post.error_by, 2, (1, 1), (15, 1))
        self.tells((0, 1), post.error_by, 0, (1, 2), (12, 1))
        self.tells("no", post.error_by, 0, (1, 2), (12 * LONG + 1, LONG))

    def test_error_by_and_shown_at(self):
        post = post_of(FIRST, SET, SECOND, ("tells", (1, 3), 4, 5, (0, 1), (1, 1)))
        for clock, moment, error in product(range(6), MOMENTS, ((0, 1), (7, 1), (-1, 2), (13, 2))):
            shown = shown_at(post.clock_now(clock), moment, error)
            told = post.error_by(clock, moment, shown)
            low, high = post.stretch_at(clock)
            fits = (low is None or Fraction(*low) <= Fraction(*error)) and \
                (high is None or Fraction(*error) <= Fraction(*high))
            self.assertEqual(told, added(error, drift(post.clock_now(clock), moment)) if fits else "no")

    def test_asking_changes_nothing(self):
        post = post_of(FIRST, SET, SECOND)
        before = deepcopy(post)
        picture(post), post.error_by(1, (1, 1), (24, 1)), post == before, post == 1, str(post)
        self.assertEqual(picture(post), picture(before))
        post.back()
        before.back()
        self.assertEqual(picture(post), picture(before))


class AgainstAllDeedsAnew(Case):
    def deed_done(self, post, plain, deed):
        """Do a deed on both; tells the name of the refusal that both have, or None."""
        due = plain.refusal(deed)
        try:
            told = DEEDS[deed[0]](post, *deed[1:])
        except errors.ClockError as error:
            self.assertEqual(type(error).__name__, due, (plain.deeds, deed))
            return due
        self.assertIsNone(due, (plain.deeds, deed))
        plain.do(deed)
        if deed[0] == "tells":
            self.assertEqual(told, len([1 for each in plain.deeds if each[0] == "tells"]) - 1)
        else:
            self.assertIsNone(told)
        return None

    def look_at(self, chance, post, plain):
        self.assertEqual(post.standing(), plain.standing())
        self.assertEqual(post.narrowed(), plain.narrowed())
        self.assertEqual(len(post), len(plain.standing()))
        sets = sum([len(plain.sets_of(clock)) for clock in range(6)])
        self.assertEqual(repr(post), f"Post({len(post)} tellings, {sets} sets)")
        for clock in range(6):
            moment = as_part(abs(part_from(chance, 5)))
            hour = as_part(24 * Fraction(*moment) + part_from(chance, 6))
            self.assertEqual(post.clock_now(clock), plain.clock_now(clock))
            self.assertEqual(post.stretch_at(clock, moment), plain.stretch_at(clock, moment))
            self.assertEqual(post.error_by(clock, moment, hour), plain.error_by(clock, moment, hour))

    def test_by_chance(self):
        chance = Random(71)
        seen = []
        for _ in range(40):
            gains = tuple([(0, 1)] + [as_part(part_from(chance, 12)) for _ in range(5)])
            row = [(0, 1)] + [as_part(part_from(chance, 5)) for _ in range(5)]
            post, plain = Post(gains), PlainPost(gains)
            for _ in range(30):
                seen.append(self.deed_done(post, plain, some_deed(chance, plain, row)))
                self.look_at(chance, post, plain)
        for name in (None, "Apart", "TooMany", "Missing", "NoDeed"):
            self.assertGreater(seen.count(name), 5, name)


class PostAlike(Case):
    def test_gains_sets_and_what_stands(self):
        made = [
            Post(GAINS), Post(STILL), post_of(FIRST), post_of(FIRST, gains=STILL), post_of(SET), post_of(FIRST, SET),
            post_of(FIRST, SECOND), post_of(SECOND, FIRST), post_of(FIRST, SECOND, ("false", 0)),
            post_of(("sets", 1, (1, 1), (-3, 1))), post_of(("sets", 2, (1, 1), (-4, 1))), post_of(SET, SIX[0]),
            post_of(("tells", (2, 1), 0, 1, (3, 1), None)),
        ]
        for (at, one), (place, other) in product(list(enumerate(made)), repeat=2):
            self.assertIs(one == other, at == place, (at, place))
            self.assertIs(one != other, at != place)

    def test_how_it_came_there_is_all_one(self):
        self.assertIs(post_of(FIRST, SET) == post_of(SET, FIRST), True)
        self.assertIs(post_of(SIX[0], SIX[1]) == post_of(SIX[1], SIX[0]), True)
        self.assertIs(post_of(FIRST, ("back",), SECOND) == post_of(SECOND), True)
        self.assertIs(post_of(FIRST, ("false", 0)) == Post(GAINS), True)
        # The same bounds at the beginning, told otherwise.
        self.assertIs(post_of(FIRST) == post_of(("tells", (0, 1), 0, 1, (2, 1), (4, 1))), True)
        self.assertIs(post_of(FIRST) != post_of(("tells", (0, 1), 0, 1, (2, 1), (4, 1))), False)

    def test_to_nothing_else(self):
        for other in NO_GAINS[:40] + [GAINS, STILL, TELLING, Post, []]:
            for post in (Post(GAINS), post_of(FIRST, SET)):
                self.assertIs(post == other, False)
                self.assertIs(other == post, False)
                self.assertIs(post != other, True)

    def test_shown(self):
        self.assertEqual(repr(Post(GAINS)), "Post(0 tellings, 0 sets)")
        self.assertEqual(repr(post_of(FIRST)), "Post(1 tellings, 0 sets)")
        self.assertEqual(repr(post_of(FIRST, SET, SECOND, SIX[0])), "Post(2 tellings, 2 sets)")
        self.assertEqual(str(post_of(*SIX, SET)), "Post(0 tellings, 7 sets)")
        sets = [("sets", clock, moment, jump) for clock in range(1, 6) for moment, jump in SIX_SETS]
        tellings = [("tells", (0, 1), 0, 1, (0, 1))] * 10
        self.assertEqual(repr(post_of(*tellings, *sets)), "Post(10 tellings, 30 sets)")
        self.assertEqual(len(post_of(*tellings, ("false", 3))), 9)


class Refusals(Case):
    """Each of a post without deeds, of one with some, and of one that is full."""

    def setUp(self):
        tellings = [("tells", (at, 1), 0, 1, (0, 1), (40, 1)) for at in range(8)]
        self.posts = [Post(GAINS), post_of(FIRST, SET), post_of(FIRST, SECOND, *SIX, *tellings)]
        self.before = [picture(post) for post in self.posts]

    def tearDown(self):
        self.assertEqual([picture(post) for post in self.posts], self.before)

    def test_no_moment(self):
        for wrong, post in product(NO_MOMENTS, self.posts):
            self.refuses(NoMoment, post.tells, wrong, 0, 1, (0, 1))
            self.refuses(NoMoment, post.tells, wrong, None, None, 0, 0)
            self.refuses(NoMoment, post.sets, 3, wrong, (1, 1))
            self.refuses(NoMoment, post.sets, 3, wrong, None)
            self.refuses(NoMoment, post.error_by, 1, wrong, (1, 1))
            self.refuses(NoMoment, post.error_by, 1, wrong, None)
            if wrong is not None:
                self.refuses(NoMoment, post.stretch_at, 1, wrong)
                self.refuses(NoMoment, post.stretch_at, moment=wrong, clock=0)

    def test_no_number(self):
        for wrong, post in product(NO_NUMBERS, self.posts):
            self.refuses(NoNumber, post.tells, (1, 1), wrong, 1, (0, 1))
            self.refuses(NoNumber, post.tells, (1, 1), wrong, None, 0, 0)
            self.refuses(NoNumber, post.tells, (1, 1), 1, wrong, (0, 1))
            self.refuses(NoNumber, post.tells, (1, 1), 1, wrong, 0, 0)
            self.refuses(NoNumber, post.tells, (1, 1), wrong, wrong)
            self.refuses(NoNumber, post.stretch_at, wrong)
            self.refuses(NoNumber, post.stretch_at, wrong, 0)
            self.refuses(NoNumber, post.clock_now, wrong)
            self.refuses(NoNumber, post.error_by, wrong, (1, 1), (1, 1))
            self.refuses(NoNumber, post.error_by, wrong, None, None)
        for wrong, post in product(NO_ERRING, self.posts):
            self.refuses(NoNumber, post.sets, wrong, (1, 1), (1, 1))
            self.refuses(NoNumber, post.sets, wrong, None, None)
        self.refuses(NoNumber, self.posts[1].clock_now, clock=None)

    def test_one_clock_twice(self):
        for clock, post in product(range(6), self.posts):
            self.refuses(NoNumber, post.tells, (1, 1), clock, clock, (0, 1), (1, 1))
            self.refuses(NoNumber, post.tells, (1, 1), clock, clock)
            self.refuses(NoNumber, post.tells, (1, 1), clock, clock, 0, None)
            self.refuses(NoMoment, post.tells, None, clock, clock, (0, 1))

    def test_no_bounds(self):
        for post in self.posts:
            self.refuses(NoTelling, post.tells, (1, 1), 0, 1)
            self.refuses(NoTelling, post.tells, (1, 1), 0, 1, None, None)
            self.refuses(NoTelling, post.tells, (1, 1), 0, 1, low=None)
            for low, high in (((1, 1), (0, 1)), ((1, LONG - 1), (1, LONG)), ((0, 1), (-1, LONG)), ((1, 2), (2, 5))):
                self.refuses(NoTelling, post.tells, (1, 1), 0, 1, low, high)
            for wrong in NO_ERRORS:
                self.refuses(NoTelling, post.tells, (1, 1), 0, 1, wrong)
                self.refuses(NoTelling, post.tells, (1, 1), 0, 1, wrong, (1, 1))
                self.refuses(NoTelling, post.tells, (1, 1), 0, 1, (1, 1), wrong)
                self.refuses(NoTelling, post.tells, (1, 1), 0, 1, high=wrong)
                self.refuses(NoTelling, post.tells, (1, 1), 0, 1, wrong, wrong)

    def test_no_jump(self):
        for wrong, post in product(NO_JUMPS, self.posts):
            self.refuses(NoPart, post.sets, 3, (1, 2), wrong)
            self.refuses(NoPart, post.sets, jump=wrong, moment=(9, 1), clock=1)

    def test_no_hour(self):
        for wrong, post in product(NO_PARTS, self.posts):
            self.refuses(NoHour, post.error_by, 1, (1, 1), wrong)
            self.refuses(NoHour, post.error_by, hour=wrong, moment=(1, 1), clock=0)

    def test_what_stands_further_to_the_left_is_refused_first(self):
        full = self.posts[2]
        self.refuses(NoMoment, full.tells, None, None, None, 0, 0)
        self.refuses(NoNumber, full.tells, (1, 1), None, None, 0, 0)
        self.refuses(NoTelling, full.tells, (1, 1), 0, 1, (1, 1), (0, 1))
        self.too_many(11, 10, full.tells, (1, 1), 0, 1, (LONG, 1))
        self.refuses(NoNumber, full.sets, 0, None, (0, 1))
        self.refuses(NoMoment, full.sets, 3, None, (0, 1))
        self.refuses(NoPart, full.sets, 3, (1, 2), (0, 1))
        self.refuses(Twice, full.sets, 3, (1, 2), (1, 1))
        self.too_many(7, 6, full.sets, 3, (1, 1), (1, 1))
        self.refuses(NoNumber, full.error_by, 6, None, None)
        self.refuses(NoMoment, full.error_by, 0, None, None)


class WhatIsTold(Case):
    def test_what_was_told_is_handed_in_again_however_long(self):
        far = (1, 1)
        for _ in range(60):
            far = times(far, (LONG, 7 ** 40))
        post = Post(((0, 1), (1, LONG), (-1, 3), (0, 1), (0, 1), (0, 1)))
        self.assertEqual(post.tells(far, 0, 1, (0, 1), far), 0)
        post.sets(1, (far[1], far[0]), far)
        low, high = post.stretch_at(1)
        self.assertTrue(high == added(low, far))
        again = Post(STILL)
        again.tells((0, 1), 0, 1, low, high)
        self.assertTrue(again.stretch_at(1) == (low, high))
        self.assertTrue(post.error_by(1, far, added(times((24, 1), far), far)) == far)

    def test_what_stands_are_tellings_that_agree(self):
        post = post_of(FIRST, SECOND, SET)
        tellings = tuple([telling for _, telling in post.standing()])
        self.assertTrue(are_tellings(tellings) and agree(tellings))
        for clock in range(6):
            self.assertEqual(stretch_of(tellings, clock), post.stretch_at(clock))
            self.assertTrue(is_clock(post.clock_now(clock)))

    def test_any_parts(self):
        for low, high in product(PARTS, repeat=2):
            if Fraction(*low) <= Fraction(*high):
                post = Post(GAINS)
                post.tells((1, LONG), 2, 3, low, high)
                self.assertEqual(len(post.standing()), 1)


class Interface(unittest.TestCase):
    def test_defined_in_this_file(self):
        self.assertEqual(Post.__module__, "gunclocks.post")

    def test_methods_stand_in_their_class(self):
        for name in (
            "__init__", "tells", "sets", "calls_false", "back", "stretch_at", "standing", "clock_now", "narrowed",
            "error_by", "__len__", "__eq__", "__repr__",
        ):
            self.assertIn(name, vars(Post))
