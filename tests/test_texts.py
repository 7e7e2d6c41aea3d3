"""0.2, 0.3 and 8.1, as far as they speak of gunclocks/texts.py."""

import re
import unittest
from itertools import product
from math import gcd

from gunclocks.errors import NoPart, NoTelling, NoTellings
from gunclocks.parts import times
from gunclocks.texts import part_read, part_shown, telling_read, telling_shown, tellings_read, tellings_shown
from tests.support import (
    DEEP, LONG, NO_PARTS, NO_TELLING, NO_TELLINGS, PARTS, SIXTEEN, TELLING, TELLINGS, TELLINGS_ALONE, Case,
)

NO_TEXTS = [
    None, True, False, 0, 1, -1, LONG, (), (1, 2), ("1/2",), [], ["1/2"], ["none"], {}, {"1/2": "1/2"}, DEEP, TELLING,
    (TELLING,),
]
NINES = "9" * 400
WRITTEN_PARTS = [
    ("0", (0, 1)), ("5", (5, 1)), ("-5", (-5, 1)), ("-3/4", (-3, 4)), ("1/2", (1, 2)), ("10", (10, 1)),
    ("100/7", (100, 7)), ("-1/10", (-1, 10)), ("1/1000", (1, 1000)), ("7/9", (7, 9)), ("-86/53", (-86, 53)),
]
NO_PART_TEXTS = [
    "", " ", "-", "/", "+", ".", "*", "none", "a", "-a", "None", "(1, 2)", "1/", "/2", "-/2", "1//2", "1/2/3", "1/2/",
    "/1/2", "00", "01", "007", "-0", "-00", "-01", "--1", "---1", "1-", "-1-", "+1", "+0", "1+1", "1.0", "1,000", "1e3",
    "1_000", "0x1", "0b1", "0/1", "0/2", "0/5", "-0/1", "0/0", "1/0", "-1/0", "1/1", "5/1", "-5/1", "2/1", "1/-2",
    "-1/-2", "1/+2", "1/02", "01/2", "1/00", "2/2", "2/4", "-2/4", "4/2", "6/3", "15/10", "3/-1", "1/2 ", " 1/2",
    "1 /2", "1/ 2", "1/2\n", "\n1/2", "1/2\t", "\t1", "5 ", " 5", "- 5", "1 2", "1:2", "1\\2", "1/2;", "1/*",
    "*/2", "0>1", "0>1 0 1", "9" + NINES, "-9" + NINES, "1/9" + NINES, "-1/9" + NINES, "1" + "0" * 400,
    "9" + NINES + "/2", "0" * 400, "0" * 401, "-" * 400, "a" * 2000, " " * 2000, "1/2" * 600,
]
NUMBER = r"(0|-?[1-9][0-9]{0,399})"


def due_part(text):
    """The part that the text writes, None where it writes none."""
    found = re.fullmatch(NUMBER + "(?:/" + NUMBER + ")?", text)
    if found is None or "\n" in text:
        return None
    top, bottom = int(found[1]), int(found[2] or 1)
    if found[2] is not None and bottom < 2 or gcd(top, bottom) != 1:
        return None
    return (top, bottom)


class PartShown(Case):
    def test_ordinary(self):
        for text, part in WRITTEN_PARTS:
            self.tells(text, part_shown, part)

    def test_long_ones(self):
        self.tells(str(LONG), part_shown, (LONG, 1))
        self.tells(f"-1/{LONG}", part_shown, (-1, LONG))
        self.tells("-1" + "0" * 3999 + "/" + "9" * 4000, part_shown, (-10 ** 3999, 10 ** 4000 - 1))

    def test_bottom_of_one_is_not_written(self):
        for top in range(-30, 31):
            self.tells(str(top), part_shown, (top, 1))

    def test_by_name(self):
        self.tells("-3/4", part_shown, part=(-3, 4))

    def test_refused(self):
        for wrong in NO_PARTS:
            self.refuses(NoPart, part_shown, wrong)
        self.refuses(NoPart, part_shown, part=None)


class PartRead(Case):
    def test_ordinary(self):
        for text, part in WRITTEN_PARTS:
            self.tells(part, part_read, text)

    def test_what_is_shown_is_read_to_the_same(self):
        for part in PARTS:
            self.tells(part, part_read, part_shown(part))
        for top, bottom in product(range(-30, 31), range(1, 13)):
            if gcd(top, bottom) == 1:
                self.tells((top, bottom), part_read, part_shown((top, bottom)))

    def test_four_hundred_figures_at_most(self):
        for sign in ("", "-"):
            for text in (sign + NINES, sign + "1" + "0" * 399, sign + NINES + "/2", sign + "1/" + NINES):
                self.tells(due_part(text), part_read, text)
        self.tells((int(NINES), int("8" + NINES[1:])), part_read, NINES + "/8" + NINES[1:])

    def test_what_writes_no_part(self):
        for text in NO_PART_TEXTS:
            self.no_text(0, part_read, text)

    def test_all_short_texts(self):
        for many in range(5):
            for signs in product("0123-/ *", repeat=many):
                self.look_at("".join(signs))

    def test_one_sign_more(self):
        for text, _ in WRITTEN_PARTS:
            for sign in [chr(at) for at in range(32, 127) if at != 37] + ["\t", "\n"]:
                for place in range(len(text) + 1):
                    self.look_at(text[:place] + sign + text[place:])

    def look_at(self, text):
        due = due_part(text)
        if due is None:
            self.no_text(0, part_read, text)
        else:
            self.tells(due, part_read, text)

    def test_what_is_no_text(self):
        for wrong in NO_TEXTS:
            self.no_text(-1, part_read, wrong)
        self.no_text(-1, part_read, text=None)

    def test_by_name(self):
        self.tells((-3, 4), part_read, text="-3/4")
        self.no_text(0, part_read, text="-3/6")


WRITTEN_TELLINGS = [
    ("0>2 -1/2 *", (0, 2, (-1, 2), None)), ("0>1 -1/2 1/2", TELLING), ("5>0 0 *", (5, 0, (0, 1), None)),
    ("4>3 * -7", (4, 3, None, (-7, 1))), ("1>5 2 2", (1, 5, (2, 1), (2, 1))),
    ("3>2 2/5 1/2", (3, 2, (2, 5), (1, 2))), ("0>5 -3 -2/3", (0, 5, (-3, 1), (-2, 3))),
]
NO_TELLING_TEXTS = [
    "", " ", "  ", "none", "*", "0", "0>1", "0>1 ", "0>1 0", "0>1 0 ", "0>1  ", "0>1 * *", "0>1 0 1 ", " 0>1 0 1",
    "0>1  0 1", "0>1 0  1", "0>1 0 1 2", "0>1 0 1 *", "0 >1 0 1", "0> 1 0 1", "0 > 1 0 1", "0 1 0 1", "01 0 1",
    "0<1 0 1", "0>>1 0 1", "0>1> 0 1", "0>1>2 0 1", ">1 0 1", "0> 0 1", "> 0 1", "0-1 0 1", "0,1 0 1", "0>1,0,1",
    "0>0 0 1", "3>3 * 1", "0>6 0 1", "6>0 0 1", "-1>0 0 1", "0>-1 0 1", "-0>1 0 1", "00>1 0 1", "0>01 0 1",
    "0>+1 0 1", "0/1>2 0 1", "0>1/1 0 1", "0>1/2 0 1", "a>1 0 1", "0>* 0 1", "*>1 0 1", "0>10 0 1", "0>1 1 0",
    "0>1 1/2 1/3", "0>1 1/2 2/5", "0>1 0 -1/9", "0>1 00 1", "0>1 0 01", "0>1 0/1 1", "0>1 0 1/1", "0>1 2/4 1",
    "0>1 0 2/4", "0>1 -0 1", "0>1 ** 1", "0>1 0 **", "0>1 -* 1", "0>1 0 -*", "0>1 */2 1", "0>1 None 1", "0>1 0 none",
    "0>1 0;1", "0>1 0 1;", "0>1 0 1; ", "0>1 0 1; 0>1 0 1", "0>1\t0\t1", "0>1 0\t1", "0>1\n0\n1", "0>1 0 1\n",
    "0>1 0 9" + NINES, "0>1 -9" + NINES + " 0", "(0, 1, (0, 1), None)", "0>1 0 1" * 200,
]


class TellingShown(Case):
    def test_ordinary(self):
        for text, telling in WRITTEN_TELLINGS:
            self.tells(text, telling_shown, telling)

    def test_by_name(self):
        self.tells("0>1 -1/2 1/2", telling_shown, telling=TELLING)

    def test_refused(self):
        for wrong in NO_TELLING:
            self.refuses(NoTelling, telling_shown, wrong)
        self.refuses(NoTelling, telling_shown, telling=None)


class TellingRead(Case):
    def test_ordinary(self):
        for text, telling in WRITTEN_TELLINGS:
            self.tells(telling, telling_read, text)

    def test_what_is_shown_is_read_to_the_same(self):
        for telling in TELLINGS_ALONE:
            self.tells(telling, telling_read, telling_shown(telling))

    def test_four_hundred_figures_at_most(self):
        self.tells((0, 1, None, (int(NINES), 1)), telling_read, f"0>1 * {NINES}")
        self.tells((0, 1, (-int(NINES), 2), None), telling_read, f"0>1 -{NINES}/2 *")

    def test_what_writes_no_telling(self):
        for text in NO_TELLING_TEXTS:
            self.no_text(0, telling_read, text)

    def test_all_clocks(self):
        for one, other in product(range(12), repeat=2):
            text = f"{one}>{other} 0 1"
            if one != other and one < 6 and other < 6:
                self.tells((one, other, (0, 1), (1, 1)), telling_read, text)
            else:
                self.no_text(0, telling_read, text)

    def test_ends(self):
        ends = ["*", "-1", "-1/2", "0", "2/5", "1/2", "1", "", "01", "2/4", "-0", "1/1"]
        worth = {"*": None, "-1": -1, "-1/2": -0.5, "0": 0, "2/5": 0.4, "1/2": 0.5, "1": 1}
        for low, high in product(ends, repeat=2):
            text = f"0>1 {low} {high}"
            fine = low in worth and high in worth and not low == high == "*"
            if fine and "*" not in (low, high):
                fine = worth[low] <= worth[high]
            if fine:
                due = [None if end == "*" else due_part(end) for end in (low, high)]
                self.tells((0, 1, *due), telling_read, text)
            else:
                self.no_text(0, telling_read, text)

    def test_what_is_no_part_is_no_end(self):
        for wrong in NO_PART_TEXTS:
            if wrong != "*":
                self.no_text(0, telling_read, f"0>1 {wrong} *")
                self.no_text(0, telling_read, f"0>1 * {wrong}")

    def test_what_is_no_text(self):
        for wrong in NO_TEXTS:
            self.no_text(-1, telling_read, wrong)
        self.no_text(-1, telling_read, text=None)

    def test_by_name(self):
        self.tells(TELLING, telling_read, text="0>1 -1/2 1/2")
        self.no_text(0, telling_read, text="0>1 1/2 -1/2")


class TellingsShown(Case):
    def test_ordinary(self):
        self.tells("none", tellings_shown, ())
        self.tells("0>1 -1/2 1/2", tellings_shown, (TELLING,))
        self.tells("0>1 -1/2 1/2; 0>1 -1/2 1/2", tellings_shown, (TELLING, TELLING))
        due = "; ".join([text for text, _ in WRITTEN_TELLINGS])
        self.tells(due, tellings_shown, tuple([telling for _, telling in WRITTEN_TELLINGS]))

    def test_sixteen(self):
        self.tells("; ".join([telling_shown(telling) for telling in SIXTEEN]), tellings_shown, SIXTEEN)

    def test_by_name(self):
        self.tells("none", tellings_shown, tellings=())

    def test_refused(self):
        for wrong in NO_TELLINGS:
            self.refuses(NoTellings, tellings_shown, wrong)
        self.refuses(NoTellings, tellings_shown, tellings=None)


class TellingsRead(Case):
    def test_ordinary(self):
        self.tells((), tellings_read, "none")
        self.tells((TELLING,), tellings_read, "0>1 -1/2 1/2")
        text = "; ".join([each for each, _ in WRITTEN_TELLINGS])
        self.tells(tuple([telling for _, telling in WRITTEN_TELLINGS]), tellings_read, text)

    def test_what_is_shown_is_read_to_the_same(self):
        for tellings in TELLINGS:
            self.tells(tellings, tellings_read, tellings_shown(tellings))

    def test_the_first_part_that_writes_no_telling(self):
        for at in range(20):
            for wrong in ("", "none", "0>1 1 0", "0>1 0 1;", " 0>1 0 1"):
                texts = ["0>1 0 1"] * at + [wrong] + ["0>2 0 1"] * (19 - at)
                self.no_text(at, tellings_read, "; ".join(texts))
                self.no_text(at, tellings_read, "; ".join(texts + [wrong]))

    def test_at_the_end_and_at_the_begin(self):
        self.no_text(0, tellings_read, "")
        self.no_text(0, tellings_read, "; ")
        self.no_text(0, tellings_read, "; 0>1 0 1")
        self.no_text(1, tellings_read, "0>1 0 1; ")
        self.no_text(1, tellings_read, "0>1 0 1; ; 0>1 0 1")
        self.no_text(0, tellings_read, "0>1 0 1;")
        self.no_text(0, tellings_read, "0>1 0 1;0>1 0 1")
        self.no_text(0, tellings_read, "0>1 0 1 ; 0>1 0 1")
        self.no_text(1, tellings_read, "0>1 0 1;  0>1 0 1")
        self.no_text(0, tellings_read, "0>1 0 1, 0>1 0 1")

    def test_none_is_written_alone(self):
        self.no_text(0, tellings_read, "none; none")
        self.no_text(0, tellings_read, "none; 0>1 0 1")
        self.no_text(1, tellings_read, "0>1 0 1; none")
        self.no_text(0, tellings_read, "none; ")
        self.no_text(0, tellings_read, "None")
        self.no_text(0, tellings_read, "none ")
        self.no_text(0, tellings_read, " none")
        self.no_text(0, tellings_read, "NONE")

    def test_sixteen_at_most(self):
        for many in range(1, 40):
            text = "; ".join(["0>1 -1/2 1/2"] * many)
            if many <= 16:
                self.tells((TELLING,) * many, tellings_read, text)
            else:
                self.no_text(16, tellings_read, text)

    def test_what_writes_no_telling_alone(self):
        for wrong in NO_TELLING_TEXTS:
            if wrong != "none" and "; " not in wrong:
                self.no_text(0, tellings_read, wrong)
                self.no_text(1, tellings_read, "0>1 * 1; " + wrong)

    def test_what_is_no_text(self):
        for wrong in NO_TEXTS:
            self.no_text(-1, tellings_read, wrong)
        self.no_text(-1, tellings_read, text=None)

    def test_by_name(self):
        self.tells((), tellings_read, text="none")
        self.no_text(0, tellings_read, text="non")


class WhatIsTold(Case):
    def test_what_was_told_is_shown_and_read_however_long(self):
        far = (1, 1)
        for _ in range(10):
            far = times(far, (LONG, 7 ** 40))
        tellings = ((0, 1, None, far), (5, 2, (-far[0], far[1]), far)) * 8
        self.tells(far, part_read, part_shown(far))
        self.tells(tellings, tellings_read, tellings_shown(tellings))


class Interface(unittest.TestCase):
    def test_defined_in_this_file(self):
        for call in (part_shown, telling_shown, tellings_shown, part_read, telling_read, tellings_read):
            self.assertEqual(call.__module__, "gunclocks.texts")
