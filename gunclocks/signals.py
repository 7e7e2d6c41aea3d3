"""Signals: balls, guns and wires between two clocks, how long they take, and what they tell."""

from gunclocks.errors import NoAir, NoSignal, TooMany
from gunclocks.parts import NOUGHT, check_part, divided, is_from_nought, is_less, is_part, less
from gunclocks.tellings import check_number, is_clock_number
from gunclocks.texts import part_shown

MOST_SIGNALS = 10


class Air:
    """How far sound comes in an hour, at least and at most."""

    def __init__(self, slow, fast=None):
        check_part(slow)
        if fast is None:
            fast = slow
        check_part(fast)
        # Where slow is above 0 and fast no less, fast is above 0, too.
        if slow[0] <= 0 or is_less(fast, slow):
            raise NoAir("sound comes no such way in an hour")
        self.slow = slow
        self.fast = fast

    def lag(self, far):
        """The tuple (least, most) of how long sound is on its way so far."""
        check_part(far)
        if far[0] < 0:
            raise NoAir("no sound comes less than no way")
        return (divided(far, self.fast), divided(far, self.slow))

    def __eq__(self, other):
        return isinstance(other, Air) and self.slow == other.slow and self.fast == other.fast

    def __repr__(self):
        return f"Air({part_shown(self.slow)}, {part_shown(self.fast)})"


def is_rest(kind, rest):
    """Whether the tuple rest is what a signal of this kind tells behind both hours."""
    if kind == "ball":
        return len(rest) == 0
    if kind == "gun":
        return len(rest) == 1 and is_from_nought(rest[0])
    if kind == "wire":
        return len(rest) == 2 and is_from_nought(rest[0]) and is_part(rest[1]) and not is_less(rest[1], rest[0])
    return False


def is_signal(thing):
    """Whether thing is a signal."""
    if not isinstance(thing, tuple) or len(thing) < 5:
        return False
    kind, sender, hearer, sent, came = thing[:5]
    if not is_clock_number(sender) or not is_clock_number(hearer) or sender == hearer:
        return False
    if not is_part(sent) or not (came is None or is_part(came)):
        return False
    return is_rest(kind, thing[5:])


def check_signal(thing):
    """Refuse with NoSignal what is no signal."""
    if not is_signal(thing):
        raise NoSignal("this is no signal")


def check_air(thing):
    """Refuse with NoAir what is no Air."""
    if not isinstance(thing, Air):
        raise NoAir("this is no air")


def lag_of(signal, air):
    """The tuple (least, most) of how long the signal may take."""
    check_signal(signal)
    check_air(air)
    if signal[0] == "gun":
        return air.lag(signal[5])
    if signal[0] == "wire":
        return (signal[5], signal[6])
    return (NOUGHT, NOUGHT)


def telling_by(signal, air):
    """The telling that the signal makes, None where it was missed."""
    least, most = lag_of(signal, air)
    sender, hearer, sent, came = signal[1:5]
    if came is None:
        return None
    later = less(came, sent)
    return (sender, hearer, less(later, most), less(later, least))


class Log:
    """Signals in one air, put one behind the other."""

    def __init__(self, air):
        check_air(air)
        self.air = air
        self.signals = []

    def put(self, signal):
        """Put the signal behind all others; its number is told."""
        check_signal(signal)
        many = len(self.signals) + 1
        if many > MOST_SIGNALS:
            raise TooMany(many, MOST_SIGNALS)
        self.signals.append(signal)
        return many - 1

    def heard(self):
        """The rising tuple of the numbers of the signals that weren't missed."""
        return tuple([number for number, signal in enumerate(self.signals) if signal[4] is not None])

    def all_told(self):
        """The tuple of the tellings of the signals that weren't missed."""
        return tuple([telling_by(self.signals[number], self.air) for number in self.heard()])

    def from_to(self, sender=None, hearer=None):
        """The tuple of the numbers of all signals of this sender and to this hearer, None being any."""
        for clock in (sender, hearer):
            if clock is not None:
                check_number(clock)
        return tuple([
            number for number, signal in enumerate(self.signals)
            if sender in (None, signal[1]) and hearer in (None, signal[2])
        ])

    def __eq__(self, other):
        return isinstance(other, Log) and self.air == other.air and self.signals == other.signals

    def __len__(self):
        return len(self.signals)

    def __repr__(self):
        return f"Log({len(self.signals)})"
