"""0.3 and the interface's section on gunclocks/errors.py: the classes of refusals."""

import unittest

from gunclocks import errors
from gunclocks.errors import ClockError, NoText, TooMany

PLAIN = [
    "NoPart", "NoNumber", "NoMoment", "NoClock", "NoHour", "NoTelling", "NoTellings", "NoRow", "Apart",
    "Twice", "Missing", "NoDeed", "NoAir", "NoSignal", "NoQuarrel", "NoCarriage", "NoLine",
]


class Classes(unittest.TestCase):
    def test_clock_error_stands_under_value_error(self):
        self.assertEqual(ClockError.__bases__, (ValueError,))
        self.assertEqual(ClockError.__name__, "ClockError")

    def test_each_class_stands_straight_under_clock_error(self):
        for name in PLAIN + ["TooMany", "NoText"]:
            with self.subTest(name=name):
                kind = getattr(errors, name)
                self.assertEqual(kind.__bases__, (ClockError,))
                self.assertEqual(kind.__name__, name)

    def test_all_are_defined_in_this_file(self):
        for name in PLAIN + ["ClockError", "TooMany", "NoText"]:
            self.assertEqual(getattr(errors, name).__module__, "gunclocks.errors")

    def test_no_class_catches_another_one(self):
        kinds = [getattr(errors, name) for name in PLAIN + ["TooMany", "NoText"]]
        for kind in kinds:
            self.assertEqual([other for other in kinds if issubclass(other, kind)], [kind])

    def test_plain_classes_are_raised_and_caught(self):
        for name in PLAIN:
            kind = getattr(errors, name)
            with self.assertRaises(kind):
                raise kind()
            with self.assertRaises(ClockError):
                raise kind("why")


class Fields(unittest.TestCase):
    def test_too_many_has_both_fields_in_their_order(self):
        error = TooMany(11, 10)
        self.assertEqual((error.many, error.most), (11, 10))
        self.assertEqual((TooMany(7, 6).many, TooMany(7, 6).most), (7, 6))

    def test_no_text_has_its_field(self):
        self.assertEqual([NoText(at).at for at in (-1, 0, 16)], [-1, 0, 16])

    def test_fields_come_through_a_raise(self):
        with self.assertRaises(TooMany) as caught:
            raise TooMany(12, 10)
        self.assertEqual((caught.exception.many, caught.exception.most), (12, 10))
        with self.assertRaises(ValueError) as caught:
            raise NoText(3)
        self.assertEqual(caught.exception.at, 3)

    def test_fields_are_each_error_s_own(self):
        one, other = TooMany(11, 10), TooMany(12, 10)
        self.assertEqual((one.many, other.many), (11, 12))
