"""0.2, 0.3, 8.2 and 8.3, as far as they speak of gunclocks/desk.py."""

import unittest
from copy import deepcopy
from itertools import product
from random import Random

from gunclocks import errors
from gunclocks.desk import Desk
from gunclocks.errors import (
    Apart, ClockError, Missing, NoClock, NoDeed, NoLine, NoMoment, NoNumber, NoPart, NoTelling, Twice,
)
from gunclocks.post import Post
from gunclocks.texts import part_read, part_shown, telling_read, telling_shown
from tests.reckoning import PlainPost, as_part, line_of, part_from, shown_word, some_deed
from tests.support import CLOCK, DEEP, GAINS, LONG, NO_CLOCKS, NO_GAINS, NO_PARTS, TELLING, WIDE_TEXT, Case

STILL = ((0, 1),) * 6
LINES = [
    "tells 2 0 1 3 5", "sets 1 1 -4", "tells 3 1 2 -1 *", "sets 1 1/2 7/3", "false 0", "tells 5 0 4 0 *", "back",
    "tells 0 5 1 * 3", "false 2", "sets 2 0 1/2",
]
QUESTIONS = ["standing", "narrowed"] + [f"clock {clock}" for clock in range(6)] \
    + [f"stretch {clock} {moment}" for clock in range(6) for moment in ("0", "7/3")] \
    + [f"error {clock} 7/3 {hour}" for clock in range(6) for hour in ("56", "60", "170/3")]


def desk_of(*lines, gains=GAINS):
    desk = Desk(gains)
    for line in lines:
        desk.say(line)
    return desk


def picture(desk):
    """All that a desk answers."""
    return (len(desk), repr(desk), [desk.say(line) for line in QUESTIONS])


class DeskMade(Case):
    def test_of_gains(self):
        desk = Desk(GAINS)
        self.assertEqual([desk.say(f"clock {clock}") for clock in range(6)], ["0", "1/2", "-1/3", "12", "-12", "0"])
        self.assertEqual((len(desk), desk.say("standing"), desk.say("narrowed")), (0, "none", "none"))

    def test_nothing_else(self):
        for wrong in NO_GAINS + NO_CLOCKS:
            self.refuses(NoClock, Desk, wrong)
        self.refuses(NoClock, Desk, gains=None)

    def test_by_name(self):
        self.assertTrue(Desk(gains=GAINS) == Desk(GAINS))
        self.assertEqual(Desk(gains=GAINS).say(line="standing"), "none")


class Deeds(Case):
    def test_tells(self):
        desk = Desk(GAINS)
        self.assertEqual(desk.say("tells 2 0 1 3 5"), "0")
        self.assertEqual(desk.say("tells 3 1 2 -1 *"), "1")
        self.assertEqual(desk.say("tells 7/3 2 1 * 99/7"), "2")
        self.assertEqual(desk.say("standing"), "0 0>1 2 4; 1 1>2 3/2 *; 2 2>1 * 1537/126")

    def test_numbers_of_two_figures(self):
        desk = Desk(STILL)
        for number in range(12):
            self.assertEqual(desk.say("tells 0 0 1 0 1"), str(number))
            if number % 2:
                self.assertEqual(desk.say(f"false {number}"), "ok")
        self.assertEqual(desk.say("tells 0 0 1 0 1"), "12")
        self.assertEqual(desk.say("standing"), "; ".join([f"{number} 0>1 0 1" for number in (0, 2, 4, 6, 8, 10, 12)]))

    def test_sets(self):
        desk = Desk(GAINS)
        self.assertEqual(desk.say("sets 1 2 1/2"), "ok")
        self.assertEqual(desk.say("sets 1 1 -3"), "ok")
        self.assertEqual(desk.say("clock 1"), "1/2; 1 -3; 2 1/2")
        self.assertEqual(desk.say("clock 2"), "-1/3")

    def test_false(self):
        desk = desk_of("tells 2 0 1 3 5", "tells 3 1 2 -1 *")
        self.assertEqual(desk.say("false 0"), "ok")
        self.assertEqual(desk.say("standing"), "1 1>2 3/2 *")
        self.assertEqual(desk.say("false 1"), "ok")
        self.assertEqual(desk.say("standing"), "none")

    def test_back(self):
        desk = Desk(GAINS)
        pictures = []
        for line in LINES[:6]:
            pictures.append(picture(desk))
            desk.say(line)
        for due in pictures[::-1]:
            self.assertEqual(desk.say("back"), "ok")
            self.assertEqual(picture(desk), due)
        self.refuses(NoDeed, desk.say, "back")
        self.assertEqual(picture(desk), picture(Desk(GAINS)))

    def test_back_and_numbers(self):
        desk = desk_of("tells 2 0 1 3 5", "back")
        self.assertEqual(desk.say("tells 2 0 1 3 5"), "0")


class Questions(Case):
    def test_stretch(self):
        desk = desk_of("tells 2 0 1 3 5", "sets 1 1 -4", "tells 0 0 2 1 *", "tells 0 0 3 * 1/2")
        self.tells("6 8", desk.say, "stretch 1 0")
        self.tells("25/4 33/4", desk.say, "stretch 1 1/2")
        self.tells("5/2 9/2", desk.say, "stretch 1 1")
        self.tells("1 *", desk.say, "stretch 2 0")
        self.tells("* 25/2", desk.say, "stretch 3 1")
        self.tells("* *", desk.say, "stretch 4 1")
        self.tells("0 0", desk.say, "stretch 0 1")

    def test_standing(self):
        desk = Desk(STILL)
        self.tells("none", desk.say, "standing")
        desk.say("tells 0 0 1 -1/2 *")
        self.tells("0 0>1 -1/2 *", desk.say, "standing")

    def test_clock(self):
        desk = desk_of("sets 1 1 -3", "sets 1 2 1/2", gains=((0, 1), CLOCK[0]) + STILL[2:])
        self.tells("1/2; 1 -3; 2 1/2", desk.say, "clock 1")
        self.tells("0", desk.say, "clock 0")

    def test_narrowed(self):
        desk = Desk(STILL)
        self.tells("none", desk.say, "narrowed")
        for line, due in (
            ("tells 0 0 1 1 *", "1"), ("tells 0 1 2 0 1", "2"), ("tells 0 0 2 * 5", "1 2"), ("tells 0 0 2 * 6", "none"),
            ("tells 0 2 4 0 1", "4"), ("false 1", "1 2 4"), ("back", "4"), ("sets 1 0 1", "1"), ("back", "4"),
        ):
            desk.say(line)
            self.tells(due, desk.say, "narrowed")

    def test_error(self):
        desk = desk_of("tells 2 0 1 3 5", "sets 1 1 -4")
        self.tells("4", desk.say, "error 1 2 52")
        self.tells("no", desk.say, "error 1 2 50")
        self.tells("5/2", desk.say, "error 1 1 53/2")
        self.tells("-9", desk.say, "error 2 1 15")
        self.tells("no", desk.say, f"error 0 1/2 {12 * LONG + 1}/{LONG}")

    def test_asking_changes_nothing(self):
        desk = desk_of(*LINES)
        before = deepcopy(desk)
        picture(desk), desk == before, repr(desk), len(desk), desk == 1
        self.assertTrue(desk == before)
        self.assertEqual(picture(desk), picture(before))


# Lines that are what they should be, of each kind.
WHOLE = [
    "tells 2 0 1 3 5", "tells 7/3 2 1 * 99/7", "sets 1 1 -3", "false 0", "back", "stretch 1 0", "standing", "clock 1",
    "narrowed", "error 1 2 52",
]
NO_NUMBER_WORDS = [
    "", "-1", "-0", "00", "01", "+1", "1/1", "1/2", "*", "one", "1.0", "1_0", "0x1", "1\n", "\t1", "None", "True",
    "1" * 31, "0" * 30, "9" * 400, "1e1", ";", "1;", "(0, 1)", "#", "''", "C",
]
NO_PART_WORDS = [
    "", "-", "/", "1/", "/2", "2/4", "4/2", "1/1", "-1/1", "0/1", "0/2", "1/0", "1/-2", "-1/-2", "--1", "+1",
    "01", "1/02", "-0", "00", "*", "**", "1.5", "1_0", "1 /2", "1/ 2", "half", "1/2/3", "1\n", "\t1", "1,2", "(1, 2)",
    "9" * 401, "1/" + "9" * 401, "-" + "9" * 401, "none", "ok", "no", "M",
]
NO_END_WORDS = [word for word in NO_PART_WORDS if word != "*"]


def with_word(line, at, word):
    words = line.split(" ")
    return " ".join(words[:at] + [word] + words[at + 1:])


class NoLines(Case):
    def setUp(self):
        self.desks = [Desk(GAINS), desk_of(*LINES[:4])]
        self.before = [picture(desk) for desk in self.desks]

    def tearDown(self):
        self.assertEqual([picture(desk) for desk in self.desks], self.before)

    def no_line(self, *lines):
        for line, desk in product(lines, self.desks):
            self.refuses(NoLine, desk.say, line)

    def test_whatever_is_no_text(self):
        for wrong in NO_PARTS + NO_GAINS[:40] + [
            ["back"], ("back",), [["standing"]], {"back": 1}, ("tells", "2", "0", "1", "3", "5"), b"back", [b"back"],
            ["sets", 1, (1, 1), (1, 1)], DEEP,
        ]:
            self.no_line(wrong)
        for desk in self.desks:
            self.refuses(NoLine, desk.say, line=None)

    def test_no_such_word(self):
        self.no_line("", " ", "  ", WIDE_TEXT, "x" * 2000, "Back", "BACK", "bac", "backs", "ok", "none", "tell", "set")
        for line in WHOLE:
            self.no_line(line.capitalize(), line.upper(), "x" + line, line.replace(line.split(" ")[0], "say"), line[1:])

    def test_blanks(self):
        for line in WHOLE:
            self.no_line(" " + line, line + " ", "  " + line, line + "\n", "\t" + line, line + "\t", line + ";")
            if " " in line:
                self.no_line(
                    line.replace(" ", "  ", 1), line.replace(" ", "\t"), line.replace(" ", "\n"), line.replace(" ", ""),
                    line[::-1].replace(" ", "  ", 1)[::-1], line.replace(" ", ", "),
                )

    def test_too_few_words_and_too_many(self):
        for line in WHOLE:
            words = line.split(" ")
            for many in range(1, len(words)):
                self.no_line(" ".join(words[:many]))
            self.no_line(line + " 0", line + " *", line + " 0 0", line + " back", line + " " + line, line + "; " + line)

    def test_words_that_write_no_number(self):
        for word in NO_NUMBER_WORDS:
            for line, at in (
                (WHOLE[0], 2), (WHOLE[0], 3), (WHOLE[2], 1), ("false 0", 1), ("stretch 1 0", 1), ("clock 1", 1),
                ("error 1 2 52", 1),
            ):
                self.no_line(with_word(line, at, word))

    def test_words_that_write_no_part(self):
        for word in NO_PART_WORDS:
            for line, at in (
                (WHOLE[0], 1), (WHOLE[2], 2), (WHOLE[2], 3), ("stretch 1 0", 2), ("error 1 2 52", 2),
                ("error 1 2 52", 3),
            ):
                self.no_line(with_word(line, at, word))

    def test_words_that_write_no_end(self):
        for word in NO_END_WORDS:
            self.no_line(with_word(WHOLE[0], 4, word), with_word(WHOLE[0], 5, word))
            self.no_line(with_word("tells 2 0 1 * *", 4, word), with_word("tells 2 0 1 * *", 5, word))

    def test_ahead_of_what_the_post_refuses(self):
        self.no_line(
            "tells -1 9 9 * x", "tells -1 0 0 * **", "sets 0 -1 00", "sets 9 -1 x", "false 99 1", "back 0",
            "stretch 9 x", "clock 9 9", "error 9 -1 x", "tells -1 " + "9" * 31 + " 0 * *", "false " + "9" * 31,
            "error 9 -1 *",
        )


class WhatThePostRefuses(Case):
    def setUp(self):
        self.desk = desk_of(*LINES)
        self.before = picture(self.desk)

    def tearDown(self):
        self.assertEqual(picture(self.desk), self.before)

    def refused(self, kind, *lines):
        for line in lines:
            self.refuses(kind, self.desk.say, line)

    def test_numbers(self):
        for number in ("6", "7", "10", "9" * 30, "1" + "0" * 29):
            self.refused(NoNumber, f"tells 0 {number} 1 0 1", f"tells 0 1 {number} 0 1", f"sets {number} 0 1")
            self.refused(NoNumber, f"stretch {number} 0", f"clock {number}", f"error {number} 0 0")
            self.refused(Missing, f"false {number}")
        self.refused(NoNumber, "sets 0 1 1", "tells 0 1 1 0 1", "tells 0 0 0 * *")
        self.refused(Missing, "false 0")

    def test_moments(self):
        for moment in ("-1", "-1/2", "-" + "9" * 400):
            self.refused(NoMoment, f"tells {moment} 0 1 0 1", f"sets 1 {moment} 1", f"stretch 1 {moment}")
            self.refused(NoMoment, f"error 1 {moment} 1", f"tells {moment} 6 6 * *", f"sets 1 {moment} 0")

    def test_bounds_and_jumps(self):
        self.refused(NoTelling, "tells 0 0 1 * *", "tells 0 0 1 1 0", "tells 0 0 1 1/2 2/5", "tells 0 0 1 0 -1")
        self.refused(NoPart, "sets 1 0 0", "sets 5 99 0")

    def test_twice_and_apart(self):
        self.refused(Twice, "sets 1 1 -4", "sets 1 1/2 1", "sets 2 0 9")
        desk = desk_of("tells 2 0 1 3 5")
        self.refuses(Apart, desk.say, "tells 2 0 1 11/2 *")
        self.refuses(Apart, desk_of("tells 1 0 1 0 1", "tells 2 0 1 0 1", gains=STILL).say, "sets 1 2 3")

    def test_too_many(self):
        desk = desk_of(*["tells 0 0 1 0 1"] * 10, *[f"sets 2 {at} 1" for at in range(6)], gains=STILL)
        before = picture(desk)
        self.too_many(11, 10, desk.say, "tells 0 0 1 0 1")
        self.too_many(11, 10, desk.say, "tells 0 0 1 5 6")
        self.too_many(7, 6, desk.say, "sets 2 9 1")
        self.assertEqual(picture(desk), before)

    def test_no_deed(self):
        self.refuses(NoDeed, Desk(GAINS).say, "back")
        self.refuses(NoDeed, desk_of("sets 1 1 1", "back").say, "back")


class DeskAlike(Case):
    def test_gains_and_all_deeds_that_stand(self):
        made = [
            Desk(GAINS), Desk(STILL), desk_of(LINES[0]), desk_of(LINES[0], gains=STILL), desk_of(LINES[1]),
            desk_of(LINES[0], LINES[1]), desk_of(LINES[1], LINES[0]), desk_of(LINES[0], "false 0"),
            desk_of("tells 0 0 1 2 4"), desk_of(LINES[0], LINES[0]), desk_of(*LINES),
            desk_of(*LINES, "standing", "back"),
        ]
        for (at, one), (place, other) in product(list(enumerate(made)), repeat=2):
            self.assertIs(one == other, at == place, (at, place))
            self.assertIs(one != other, at != place)

    def test_how_it_came_there_is_all_one(self):
        self.assertIs(desk_of(LINES[0], LINES[1], "back") == desk_of(LINES[0]), True)
        self.assertIs(desk_of(LINES[1], "back", "standing", LINES[0]) == desk_of(LINES[0]), True)
        self.assertIs(desk_of(LINES[0], "standing", "narrowed", "clock 1") == desk_of(LINES[0]), True)
        self.assertIs(desk_of(LINES[0], LINES[1], "back") != desk_of(LINES[0]), False)
        desk = desk_of(LINES[0])
        for line in ("sets 1 -1 1", "tells 2 0 1 11/2 *", "tell", "false 1", None):
            with self.assertRaises(ClockError):
                desk.say(line)
        self.assertIs(desk == desk_of(LINES[0]), True)

    def test_the_post_s_likeness_is_not_the_desk_s(self):
        self.assertTrue(desk_of(LINES[0]).say("standing") == desk_of("tells 0 0 1 2 4").say("standing"))
        self.assertIs(desk_of(LINES[0]) == desk_of("tells 0 0 1 2 4"), False)
        self.assertIs(desk_of(LINES[0], "false 0") == Desk(GAINS), False)

    def test_to_nothing_else(self):
        for other in NO_GAINS[:40] + [GAINS, [], LINES[:1], Post(GAINS), Desk, TELLING]:
            for desk in (Desk(GAINS), desk_of(LINES[0])):
                self.assertIs(desk == other, False)
                self.assertIs(other == desk, False)
                self.assertIs(desk != other, True)

    def test_len_and_repr(self):
        desk = Desk(GAINS)
        for many, line in enumerate(["tells 0 0 1 0 1", "sets 1 1 1", "false 0", "sets 2 1 1"], 1):
            desk.say(line)
            desk.say("standing")
            self.assertEqual((len(desk), repr(desk), str(desk)), (many, f"Desk({many})", f"Desk({many})"))
        for many in (3, 2, 1, 0):
            desk.say("back")
            self.assertEqual((len(desk), repr(desk)), (many, f"Desk({many})"))

    def test_each_desk_keeps_its_own(self):
        one, other = Desk(GAINS), Desk(GAINS)
        one.say(LINES[0])
        self.assertEqual((len(one), len(other)), (1, 0))
        self.assertEqual(picture(other), picture(Desk(GAINS)))


class AsAPost(Case):
    def due_answers(self, post, plain, clock, moment, hour):
        """What is due of each question, by a post that was told the same."""
        shown = [f"{number} {telling_shown(telling)}" for number, telling in post.standing()]
        gain, sets = plain.clock_now(clock)
        entries = [" ".join([shown_word(moment), shown_word(jump)]) for moment, jump in sets]
        error = post.error_by(clock, moment, hour)
        return {
            "standing": "; ".join(shown) if shown else "none",
            "narrowed": " ".join([str(each) for each, _, _ in plain.narrowed()]) if plain.narrowed() else "none",
            f"clock {clock}": "; ".join([shown_word(gain)] + entries),
            f"stretch {clock} {shown_word(moment)}": " ".join([
                shown_word(end) for end in post.stretch_at(clock, moment)
            ]),
            f"error {clock} {shown_word(moment)} {shown_word(hour)}": shown_word(error),
        }

    def deed_done(self, desk, post, plain, deed):
        """Say a deed; it is answered as is due, or refused as the post refuses it."""
        due = plain.refusal(deed)
        if due is not None:
            before = deepcopy(desk)
            self.refuses(getattr(errors, due), desk.say, line_of(deed))
            self.assertTrue(desk == before)
            return
        plain.do(deed)
        call = {"tells": post.tells, "sets": post.sets, "false": post.calls_false, "back": post.back}[deed[0]]
        told = call(*deed[1:])
        self.assertEqual(desk.say(line_of(deed)), "ok" if told is None else str(told))
        self.assertEqual(len(desk), len(plain.deeds))

    def test_by_chance(self):
        chance = Random(82)
        for _ in range(25):
            gains = tuple([(0, 1)] + [as_part(part_from(chance, 12)) for _ in range(5)])
            row = [(0, 1)] + [as_part(part_from(chance, 5)) for _ in range(5)]
            desk, post, plain = Desk(gains), Post(gains), PlainPost(gains)
            for _ in range(30):
                self.deed_done(desk, post, plain, some_deed(chance, plain, row))
                moment = as_part(abs(part_from(chance, 5)))
                hour = as_part(24 * part_from(chance, 5))
                for line, due in self.due_answers(post, plain, chance.randint(0, 5), moment, hour).items():
                    self.tells(due, desk.say, line)
            # The lines that stand make another desk alike, however this one came there.
            again = desk_of(*[line_of(deed) for deed in plain.deeds], gains=gains)
            self.assertTrue(again == desk)
            self.assertEqual(picture(again), picture(desk))


class WhatFollows(Case):
    """8.3."""

    def test_what_is_shown_is_read_to_the_same(self):
        desk = desk_of(*LINES, gains=((0, 1), (LONG, LONG - 1), (-1, LONG), (1, 2), (0, 1), (0, 1)))
        for shown in desk.say("standing").split("; "):
            number, _, text = shown.partition(" ")
            self.assertEqual(telling_shown(telling_read(text)), text)
            self.assertEqual(desk.say(f"false {number}"), "ok")
        for line in ("stretch 1 0", "stretch 1 7/3", "stretch 2 1/2"):
            for word in desk.say(line).split(" "):
                self.assertTrue(word == "*" or part_shown(part_read(word)) == word)

    def test_of_four_hundred_figures(self):
        long = "9" * 400
        desk = Desk(STILL)
        self.assertEqual(desk.say(f"tells {long} 0 1 -{long} 1/{long}"), "0")
        self.assertEqual(desk.say("standing"), f"0 0>1 -{long} 1/{long}")
        self.assertEqual(desk.say("stretch 1 0"), f"-{long} 1/{long}")
        self.assertEqual(desk.say(f"sets 1 1/{long} -{long}"), "ok")
        self.assertEqual(desk.say("clock 1"), f"0; 1/{long} -{long}")
        self.assertEqual(desk.say(f"error 2 0 {long}"), long)
        self.refuses(NoLine, desk.say, f"tells {long}9 0 1 0 1")
        self.refuses(NoLine, desk.say, f"error 2 0 9{long}")

    def test_a_line_that_is_refused_changes_nothing(self):
        desk = desk_of(*LINES)
        before = picture(desk)
        for line in (
            "tells 0 1 2 * -99", "sets 1 1 -4", "false 0", "back 1", "tells 0 0 6 0 1", "tells 0 0 1 * *", None, "say",
            "sets 0 1 1", "stretch 1 -1", "error 1 0 *",
        ):
            with self.assertRaises(ClockError):
                desk.say(line)
            self.assertEqual(picture(desk), before)

    def test_desks_that_are_alike_answer_alike(self):
        one, other = desk_of(*LINES), desk_of("sets 3 3 3", "back", *LINES)
        self.assertTrue(one == other)
        for line in QUESTIONS + ["tells 1 0 3 0 1", "back", "back", "back"] + QUESTIONS:
            self.assertEqual(one.say(line), other.say(line))


class Interface(unittest.TestCase):
    def test_defined_in_this_file(self):
        self.assertEqual(Desk.__module__, "gunclocks.desk")

    def test_methods_stand_in_their_class(self):
        for name in ("__init__", "say", "__len__", "__eq__", "__repr__"):
            self.assertIn(name, vars(Desk))
