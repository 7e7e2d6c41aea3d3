"""What all tests share: how a question is asked, and things that are nearly right but wrong."""

import unittest
from copy import deepcopy

from gunclocks.errors import NoText, TooMany

LONG = 10 ** 40 - 1
DEEP = (((((((1,),),),),),),)
WIDE_TEXT = "ab \t\n~" * 333


def kinds(thing):
    """A picture of a thing that tells a truth from a number and a list from a tuple."""
    if isinstance(thing, (tuple, list)):
        return (type(thing).__name__, [kinds(each) for each in thing])
    if isinstance(thing, dict):
        return ("dict", [(kinds(key), kinds(each)) for key, each in thing.items()])
    return (type(thing).__name__, thing)


class Case(unittest.TestCase):
    """A test case that asks each question twice and looks after what it hands in."""

    def ask(self, call, *handed, **named):
        before = deepcopy((handed, named))
        first = call(*handed, **named)
        pictured = deepcopy(first)
        second = call(*handed, **named)
        if kinds(before) != kinds((handed, named)):
            self.fail(f"{call.__name__} changed what was handed in")
        if kinds(pictured) != kinds(second):
            self.fail(f"{call.__name__} has two answers to one question")
        if isinstance(first, list):
            self.assertIsNot(first, second)
        return first

    def tells(self, due, call, *handed, **named):
        told = self.ask(call, *handed, **named)
        if kinds(told) != kinds(due):
            self.fail(f"{call.__name__} of {handed} {named} told {told}, due is {due}")

    def refuses(self, kind, call, *handed, **named):
        before = deepcopy((handed, named))
        for _ in range(2):
            refusal = None
            try:
                call(*handed, **named)
            except Exception as error:
                refusal = error
            if type(refusal) is not kind:
                self.fail(f"{call.__name__} of {handed} {named}: {refusal!r}, due is {kind}")
        if kinds(before) != kinds((handed, named)):
            self.fail(f"{call.__name__} changed what it refused")
        return refusal

    def too_many(self, many, most, call, *handed, **named):
        refusal = self.refuses(TooMany, call, *handed, **named)
        self.assertEqual(kinds((refusal.many, refusal.most)), kinds((many, most)))

    def no_text(self, at, call, *handed, **named):
        refusal = self.refuses(NoText, call, *handed, **named)
        if kinds(refusal.at) != kinds(at):
            self.fail(f"{call.__name__} of {handed} {named}: NoText of {refusal.at}, due is {at}")


# What is no part, whatever else it may be. None stands first: some places allow it.
NO_PARTS = [
    None, True, False, 0, 1, -1, LONG, "", "1", "1/2", "01", "(1, 2)", WIDE_TEXT,
    (), (1,), (1, 2, 3), (0, 1, 1), [], [1], [1, 2], [0, 1], {}, {0: 1, 1: 2}, {"top": 1, "bottom": 2},
    (1, 0), (0, 0), (-1, 0), (1, -2), (-1, -2), (0, -1), (-1, -1), (LONG, -1),
    (0, 2), (2, 2), (2, 4), (-2, 4), (4, 2), (-4, 2), (6, 3), (15, 10), (LONG, LONG), (2 * LONG, 2),
    (True, 1), (1, True), (False, 1), (0, True), (True, 2), (True, True), (3, True),
    (None, 1), (1, None), (None, None), ("1", 2), (1, "2"), ("1", "2"), ("0", 1),
    ((1, 2),), ((0, 1),), ((1, 2), (1, 2)), ((1,), 2), (1, (2,)), ((1, 2), 1), (1, (1, 2)),
    ([1], 2), (1, [2]), ({}, 1), (1, {}), [(1, 2)], {(1, 2): (1, 2)},
    DEEP, (DEEP[0], 1), tuple(range(200)), [[[[[[[[1]]]]]]]],
]
PARTS = [
    (0, 1), (1, 1), (-1, 1), (1, 2), (-1, 2), (2, 3), (-7, 3), (3, 2), (12, 1), (5, 12), (100, 7),
    (-1, LONG), (1, LONG), (LONG, 1), (-LONG, 1), (LONG, LONG - 1), (-LONG, LONG - 1),
]
NO_ERRORS = NO_PARTS[1:]
NO_MOMENTS = NO_PARTS + [(-1, 1), (-1, 2), (-1, LONG), (-LONG, 1), (-24, 1)]
NO_WHOLES = [
    None, True, False, "", "1", "0", (), (1,), (1, 2), (1, 1), [], [1], {}, {1: 1}, DEEP, WIDE_TEXT,
]
NO_NUMBERS = NO_WHOLES + [-1, -6, 6, 7, LONG, -LONG, (0,), [0], "5"]

ONCE = (((1, 1), (-3, 1)),)
CLOCK = ((1, 2), (((1, 1), (-3, 1)), ((2, 1), (1, 2))))
SIX_SETS = tuple([((at, 2), (1, 1)) for at in (1, 3, 5, 7, 9, 11)])
CLOCKS = [
    ((0, 1), ()), ((12, 1), ()), ((-12, 1), ()), ((1, 2), ()), ((23, 2), ()), ((-23, 2), ()),
    ((12 * LONG - 1, LONG), ()), ((1 - 12 * LONG, LONG), ()), CLOCK, ((-1, 3), ONCE),
    ((0, 1), (((0, 1), (1, 1)),)), ((0, 1), (((0, 1), (-1, 1)),)), ((0, 1), (((0, 1), (-LONG, 7)),)),
    ((1, 1), (((2, 5), (1, 1)), ((1, 2), (1, 1)))), ((1, 1), (((1, 3), (9, 1)), ((1, 2), (-9, 1)), ((2, 3), (1, 9)))),
    ((0, 1), SIX_SETS), ((0, 1), (((LONG, 2), (1, LONG)),)), ((0, 1), (((1, LONG), (1, 1)), ((1, LONG - 1), (1, 1)))),
]
NO_CLOCKS = [
    None, True, False, 0, 1, LONG, "", "clock", WIDE_TEXT, (), [], {}, DEEP, (0, 1), (1, 2),
    ((1, 2),), ((1, 2), (), ()), (CLOCK,), (CLOCK, CLOCK), CLOCK + ((),), CLOCK[:1], list(CLOCK), {"gain": (1, 2)},
    [(1, 2), ()], ((1, 2), []), ([1, 2], ()), ((1, 2), None), ((1, 2), {}), ((1, 2), ""), ((1, 2), 0),
    ((1, 2), False),
    (None, ()), (0, ()), (True, ()), ("0", ()), ((), ()), ((0, 2), ()), ((2, 4), ()), ((1, 0), ()), ((1, -2), ()),
    ((True, 1), ()), ((0, True), ()), ((13, 1), ()), ((-13, 1), ()), ((25, 2), ()), ((-25, 2), ()), ((121, 10), ()),
    ((12 * LONG + 1, LONG), ()), ((-12 * LONG - 1, LONG), ()), (LONG, ()), ((LONG, 1), ()), (ONCE, (1, 2)),
    ((1, 2), ((1, 1), (1, 1))), ((1, 2), (((1, 1),),)), ((1, 2), (((1, 1), (1, 1), (1, 1)),)), ((1, 2), (ONCE,)),
    ((1, 2), ([(1, 1), (1, 1)],)), ((1, 2), [((1, 1), (1, 1))]), ((1, 2), (None,)), ((1, 2), (True,)),
    ((1, 2), ("",)),
    ((1, 2), ((),)), ((1, 2), (((1, 1), (0, 1)),)), ((1, 2), (((1, 1), (0, 2)),)), ((1, 2), (((1, 1), (2, 4)),)),
    ((1, 2), (((1, 1), 1),)), ((1, 2), ((1, (1, 1)),)), ((1, 2), (((1, 1), None),)), ((1, 2), ((None, (1, 1)),)),
    ((1, 2), (((1, 1), [1, 1]),)), ((1, 2), (([1, 1], (1, 1)),)), ((1, 2), (((1, True), (1, 1)),)),
    ((1, 2), (((-1, 1), (1, 1)),)), ((1, 2), (((-1, LONG), (1, 1)),)), ((1, 2), (((2, 2), (1, 1)),)),
    ((1, 2), (((1, 1), (1, 1)), ((1, 1), (1, 1)))), ((1, 2), (((1, 1), (1, 1)), ((1, 1), (2, 1)))),
    ((1, 2), (((0, 1), (1, 1)), ((0, 1), (-1, 1)))), ((1, 2), (((1, 2), (1, 1)), ((2, 5), (1, 1)))),
    ((1, 2), (((0, 1), (1, 1)), ((2, 1), (1, 1)), ((1, 1), (1, 1)))), ((1, 2), (((2, 1), (1, 1)), ((1, 1), (1, 1)))),
    ((1, 2), SIX_SETS[:3] + (None,)), ((1, 2), SIX_SETS + (((7, 1), (1, 1)),)),
    ((1, 2), SIX_SETS + (((7, 1), (0, 1)),)),
    ((1, 2), SIX_SETS[::-1]), ((1, 2), list(SIX_SETS)), ((13, 1), ONCE),
]

TELLING = (0, 1, (-1, 2), (1, 2))
TELLINGS_ALONE = [
    TELLING, (1, 0, (0, 1), (0, 1)), (5, 0, (0, 1), None), (0, 5, None, (0, 1)), (4, 5, (-3, 1), (-2, 1)),
    (2, 3, (2, 5), (1, 2)), (3, 2, (-1, 2), (-2, 5)), (1, 2, (-LONG, 1), (LONG, LONG - 1)), (5, 4, (1, LONG), None),
]
NO_TELLING = [
    None, True, False, 0, 1, "", "0>1 -1/2 1/2", "0123", WIDE_TEXT, (), [], {}, DEEP, (0,), (0, 1), (0, 1, (0, 1)),
    TELLING[:3], TELLING + (None,), TELLING + ((0, 1),), (TELLING,), ((TELLING,),), list(TELLING), [TELLING],
    {0: TELLING}, (0, 1, ((-1, 2), (1, 2))), ((0, 1), (-1, 2), (1, 2)), ((0, 1), ((-1, 2), (1, 2))),
    (0, 0, (0, 1), (1, 1)), (5, 5, (0, 1), (1, 1)), (3, 3, None, (1, 1)), (0, 6, (0, 1), (1, 1)),
    (6, 0, (0, 1), (1, 1)),
    (-1, 0, (0, 1), (1, 1)), (0, -1, (0, 1), (1, 1)), (True, 0, (0, 1), (1, 1)), (0, True, (0, 1), (1, 1)),
    (False, 1, (0, 1), (1, 1)), (1, False, (0, 1), (1, 1)), (None, 1, (0, 1), (1, 1)), (0, None, (0, 1), (1, 1)),
    ("0", 1, (0, 1), (1, 1)), (0, "1", (0, 1), (1, 1)), ((0,), 1, (0, 1), (1, 1)), (0, (1,), (0, 1), (1, 1)),
    ([0], 1, (0, 1), (1, 1)), (0, {}, (0, 1), (1, 1)), (0, LONG, (0, 1), (1, 1)), ((0, 1), (1, 1), (0, 1), (1, 1)),
    (0, 1, None, None), (0, 1, (1, 2), (1, 3)), (0, 1, (1, 2), (2, 5)), (0, 1, (1, 1), (-1, 1)),
    (0, 1, (0, 1), (-1, LONG)),
    (0, 1, (LONG, LONG - 1), (1, 1)),
] + [(0, 1, wrong, (100, 1)) for wrong in NO_ERRORS] + [(0, 1, (-100, 1), wrong) for wrong in NO_ERRORS] \
  + [(0, 1, wrong, None) for wrong in NO_PARTS] + [(0, 1, None, wrong) for wrong in NO_PARTS]
SIXTEEN = (TELLING, (1, 2, (1, 1), (2, 1)), (2, 0, None, (3, 1)), (3, 4, (0, 1), None)) * 4
TELLINGS = [(), (TELLING,), tuple(TELLINGS_ALONE), (TELLING, TELLING), SIXTEEN[:15], SIXTEEN]
NO_TELLINGS = [
    None, True, False, 0, 1, "", "none", "0>1 -1/2 1/2", WIDE_TEXT, [], {}, DEEP, [TELLING], {0: TELLING}, TELLING,
    list(SIXTEEN), ((TELLING,),), ((),), (TELLING, ()), (TELLING, None), (None, TELLING), (TELLING, list(TELLING)),
    (TELLING, (TELLING,)), SIXTEEN + (TELLING,), SIXTEEN + SIXTEEN, SIXTEEN + (None,), SIXTEEN[:15] + (None,),
] + [(wrong,) for wrong in NO_TELLING] + [(TELLING, wrong, TELLING) for wrong in NO_TELLING]

ROW = ((0, 1), (1, 2), (-1, 3), (5, 1), (0, 1), (-7, 2))
NO_ROWS = [
    None, True, False, 0, 1, "", "000000", WIDE_TEXT, (), [], {}, DEEP, (0, 1), ROW[:5], ROW + ((0, 1),),
    ROW[1:], ROW[:1],
    list(ROW), (ROW,), tuple([(part,) for part in ROW]), {at: ROW[at] for at in range(6)}, (0, 0, 0, 0, 0, 0),
    ((1, 1),) + ROW[1:], ((-1, LONG),) + ROW[1:], ((0, 2),) + ROW[1:], ((0, -1),) + ROW[1:], ((False, 1),) + ROW[1:],
    ((0, True),) + ROW[1:], (None,) + ROW[1:], (0,) + ROW[1:], ([0, 1],) + ROW[1:], ROW[::-1], (ROW[:3], ROW[3:]),
] + [ROW[:at] + (wrong,) + ROW[at + 1:] for at in (1, 5) for wrong in NO_PARTS]

BALL = ("ball", 0, 1, (5, 1), (13, 2))
GUN = ("gun", 2, 3, (5, 1), (13, 2), (1, 20))
WIRE = ("wire", 4, 5, (5, 1), (13, 2), (1, 6), (1, 2))
SIGNALS = [
    BALL, GUN, WIRE, BALL[:4] + (None,), GUN[:4] + (None, (1, 20)), WIRE[:4] + (None, (1, 6), (1, 2)),
    ("ball", 5, 0, (0, 1), (0, 1)), ("ball", 3, 2, (-LONG, 1), (-1, LONG)), ("ball", 1, 0, (2, 1), (1, 1)),
    ("gun", 0, 5, (0, 1), (-3, 1), (0, 1)), ("gun", 1, 2, (1, LONG), (LONG, 1), (LONG, LONG - 1)),
    ("wire", 1, 0, (2, 3), (2, 3), (0, 1), (0, 1)), ("wire", 0, 1, (2, 3), (2, 3), (2, 5), (1, 2)),
    ("wire", 0, 1, (2, 3), (2, 3), (1, 3), (1, 3)), ("wire", 5, 4, (1, 2), (9, 1), (0, 1), (LONG, 1)),
]
# None among parts stands for a missed signal where the hour of its coming stands.
NO_SIGNALS = [
    None, True, False, 0, 1, "", "ball", WIDE_TEXT, (), [], {}, DEEP, TELLING, (BALL,), [BALL], {0: BALL},
    ("ball",), ("ball", BALL[1:]), BALL[1:], BALL[:4], GUN[:4], BALL[:3], (BALL, GUN), ((BALL[0],), BALL[1:]),
    GUN[:5], WIRE[:5], WIRE[:6], BALL + (None,), BALL + ((0, 1),), BALL + ((0, 1), (0, 1)), GUN + (None,),
    GUN + ((1, 20),), WIRE + (None,), WIRE + ((1, 2),), BALL[:4] + ((),), BALL[:3] + ((5, 1), (6, 1), ()),
    GUN[:5] + ((),), WIRE[:5] + (((1, 6), (1, 2)),), GUN[:5] + ((-1, 20),), GUN[:5] + ((-1, LONG),), GUN[:5] + (0,),
    WIRE[:5] + ((-1, 6), (1, 2)), WIRE[:5] + ((-1, LONG), (0, 1)), WIRE[:5] + ((1, 2), (1, 6)),
    WIRE[:5] + ((1, 2), (2, 5)), WIRE[:5] + ((0, 1), (-1, 6)), WIRE[:5] + ((-1, 2), (-1, 2)),
    ("Ball",) + BALL[1:], ("BALL",) + BALL[1:], ("ball ",) + BALL[1:], ("bal",) + BALL[1:], ("",) + BALL[1:],
    ("gun",) + BALL[1:], ("wire",) + BALL[1:], ("ball",) + GUN[1:], ("wire",) + GUN[1:], ("ball",) + WIRE[1:],
    ("gun",) + WIRE[1:], ("ship",) + BALL[1:], ("ship",) + GUN[1:], ("ship",) + WIRE[1:],
] + [(wrong,) + told[1:] for told in (BALL, GUN, WIRE) for wrong in NO_PARTS] \
  + [told[:1] + (wrong,) + told[2:] for told in (BALL, GUN, WIRE) for wrong in NO_NUMBERS] \
  + [told[:2] + (wrong,) + told[3:] for told in (BALL, GUN, WIRE) for wrong in NO_NUMBERS] \
  + [told[:1] + (4, 4) + told[3:] for told in (BALL, GUN, WIRE)] \
  + [told[:3] + (wrong,) + told[4:] for told in (BALL, GUN, WIRE) for wrong in NO_PARTS] \
  + [told[:4] + (wrong,) + told[5:] for told in (BALL, GUN, WIRE) for wrong in NO_ERRORS] \
  + [told[:5] + (wrong,) + told[6:] for told in (GUN, WIRE) for wrong in NO_PARTS] \
  + [WIRE[:6] + (wrong,) for wrong in NO_PARTS] \
  + [list(told) for told in (BALL, GUN, WIRE)]
NO_AIRS = [
    None, True, False, 0, 1, LONG, "", "Air(1/5, 1/3)", WIDE_TEXT, (), [], {}, DEEP, (1, 3), ((1, 5), (1, 3)),
    [(1, 5), (1, 3)], {"slow": (1, 5), "fast": (1, 3)}, ((1, 5),), BALL, TELLING, {(1, 5): (1, 3)},
]

# What are no watched clocks; None among them is never allowed.
NO_WATCHED = [
    None, True, False, 0, 1, 5, -1, LONG, "", "1", "12", WIDE_TEXT, (), [], {}, DEEP, [1], [1, 2], {1: 2}, (0,),
    (0, 1), (0, 1, 2, 3, 4, 5), (1, 2, 3, 4, 5, 6), (1, 1), (1, 2, 2), (2, 1), (1, 3, 2), (5, 4, 3, 2, 1), (6,), (1, 6),
    (-1,), (-1, 1), (LONG,), (1, LONG), (True,), (True, 2), (1, True), (False, 1), (None,), (1, None), (None, 1),
    ("1",), (1, "2"), ((1,),), ((1, 2),), (1, (2,)), ([1],), (1, {}), (1, 2, 3, 4, 5, 5), tuple(range(200)),
    tuple(range(1, 200)), TELLING,
]
NO_OFFERS = NO_TELLINGS + [(), (TELLING,) * 7, (TELLING,) * 16, SIXTEEN, SIXTEEN[:7], (TELLING,) * 6 + (None,)]

CARRIAGE = (0, 1, (5, 1), (3, 1), (10, 1), (-1, 2), (1, 3))
CARRIAGES = [
    CARRIAGE, (5, 0, (0, 1), (0, 1), (0, 1), (0, 1), (0, 1)), (4, 3, (-1, 2), (7, 3), (2, 5), (2, 5), (1, 2)),
    (1, 2, (LONG, 1), (-LONG, LONG - 1), (LONG, 7), (-LONG, 1), (1, LONG)),
    (2, 1, (1, LONG), (1, 1), (1, 1), (-3, 1), (-3, 1)), (3, 5, (0, 1), (-1, 1), (1, LONG), (1, LONG), (1, LONG - 1)),
]
NO_CARRIAGE = [
    None, True, False, 0, 1, "", "0>1 5 3 10", "0123456", WIDE_TEXT, (), [], {}, DEEP, (0, 1), TELLING, BALL, WIRE,
    CARRIAGE[:6], CARRIAGE[1:], CARRIAGE + (None,), CARRIAGE + ((0, 1),), (CARRIAGE,), ((CARRIAGE,),), list(CARRIAGE),
    [CARRIAGE], {0: CARRIAGE}, (CARRIAGE[:2], CARRIAGE[2:]), (CARRIAGE[:2],) + CARRIAGE[2:],
    CARRIAGE[:5] + (CARRIAGE[5:],), (0, 1, 5, 3, 10, -1, 1), CARRIAGE[:6] + ((-2, 3),), CARRIAGE[:5] + ((2, 5), (1, 3)),
    CARRIAGE[:5] + ((1, LONG - 1), (1, LONG)), CARRIAGE[:5] + ((0, 1), (-1, LONG)),
] + [CARRIAGE[:4] + (wrong,) + CARRIAGE[5:] for wrong in ((-1, 1), (-1, 2), (-1, LONG), (-LONG, 1))] \
  + [(wrong,) + CARRIAGE[1:] for wrong in NO_NUMBERS] \
  + [CARRIAGE[:1] + (wrong,) + CARRIAGE[2:] for wrong in NO_NUMBERS] \
  + [(each, each) + CARRIAGE[2:] for each in range(6)] \
  + [CARRIAGE[:at] + (wrong,) + CARRIAGE[at + 1:] for at in range(2, 7) for wrong in NO_PARTS]
TEN_CARRIAGES = (CARRIAGE, CARRIAGES[2], CARRIAGES[1], CARRIAGES[5], CARRIAGES[4]) * 2
NO_CARRIAGES = [
    None, True, False, 0, 1, "", "none", WIDE_TEXT, [], {}, DEEP, [CARRIAGE], {0: CARRIAGE}, CARRIAGE, TELLING,
    (TELLING,), list(TEN_CARRIAGES), ((CARRIAGE,),), ((),), (CARRIAGE, ()), (CARRIAGE, None), (None, CARRIAGE),
    (CARRIAGE, [CARRIAGE]), (CARRIAGE, (CARRIAGE,)), TEN_CARRIAGES + (CARRIAGE,), (CARRIAGE,) * 16,
    TEN_CARRIAGES + (None,),
    TEN_CARRIAGES[:9] + (None,),
] + [(wrong,) for wrong in NO_CARRIAGE] + [(CARRIAGE, wrong, CARRIAGE) for wrong in NO_CARRIAGE]

GAINS = ((0, 1), (1, 2), (-1, 3), (12, 1), (-12, 1), (0, 1))
NO_GAINS = [
    None, True, False, 0, 1, "", "000000", WIDE_TEXT, (), [], {}, DEEP, (0, 1), CLOCK, TELLING, GAINS[:5], GAINS[1:],
    GAINS + ((0, 1),), GAINS + (None,), list(GAINS), (GAINS,), [GAINS], {at: GAINS[at] for at in range(6)},
    (0, 0, 0, 0, 0, 0), (GAINS[:3], GAINS[3:]), tuple([(gain,) for gain in GAINS]), ((1, 1),) + GAINS[1:],
    ((-1, LONG),) + GAINS[1:], ((1, 2),) * 6, tuple([(gain, ()) for gain in GAINS]), (None,) * 6, ((0, 1),) * 7,
    ((0, 1),) * 5, (False, True) * 3,
] + [GAINS[:at] + (wrong,) + GAINS[at + 1:] for at in (0, 1, 5) for wrong in NO_PARTS + [
    (13, 1), (-13, 1), (25, 2), (-25, 2), (LONG, 1), (12 * LONG + 1, LONG), (-12 * LONG - 1, LONG), CLOCK,
]]
NO_JUMPS = NO_PARTS + [(0, 1)]
NO_MISSING = NO_WHOLES + [-1, LONG, -LONG, (0,), [0], "0"]
