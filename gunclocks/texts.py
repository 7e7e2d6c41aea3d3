"""Texts: how parts and tellings are written, and how what is written so is read back."""

from gunclocks.errors import NoText
from gunclocks.parts import check_part, is_part
from gunclocks.tellings import MOST_TELLINGS, check_telling, check_tellings, is_telling

FIGURES = "0123456789"
MOST_FIGURES = 400
NO_END = "*"
NO_TELLINGS = "none"


def part_shown(part):
    """The text that writes the part."""
    check_part(part)
    top, bottom = part
    if bottom == 1:
        return str(top)
    return f"{top}/{bottom}"


def end_shown(end):
    """The text that writes an end, a part or None."""
    if end is None:
        return NO_END
    return part_shown(end)


def telling_shown(telling):
    """The text that writes the telling."""
    check_telling(telling)
    one, other, low, high = telling
    return f"{one}>{other} {end_shown(low)} {end_shown(high)}"


def tellings_shown(tellings):
    """The text that writes the tellings."""
    check_tellings(tellings)
    if len(tellings) == 0:
        return NO_TELLINGS
    return "; ".join([telling_shown(telling) for telling in tellings])


def check_text(thing):
    """Refuse with NoText of -1 what is no text."""
    if not isinstance(thing, str):
        raise NoText(-1)


def whole_read(text):
    """The whole number that the text writes, None where it writes none."""
    figures = text.removeprefix("-")
    if not 0 < len(figures) <= MOST_FIGURES:
        return None
    if not all([figure in FIGURES for figure in figures]):
        return None
    # Nought itself is the only number with a nought ahead, and it has no sign.
    if figures[0] == "0" and text != "0":
        return None
    return int(text)


def part_read(text):
    """The part that the text writes."""
    check_text(text)
    top, slash, bottom = text.partition("/")
    if slash == "":
        part = (whole_read(top), 1)
    else:
        part = (whole_read(top), whole_read(bottom))
    # A bottom of 1 is never written.
    if not is_part(part) or bottom == "1":
        raise NoText(0)
    return part


def end_read(text):
    """The end that the text writes, a part or None."""
    if text == NO_END:
        return None
    return part_read(text)


def telling_read(text):
    """The telling that the text writes."""
    check_text(text)
    words = text.split(" ")
    if len(words) != 3:
        raise NoText(0)
    one, _, other = words[0].partition(">")
    telling = (whole_read(one), whole_read(other), end_read(words[1]), end_read(words[2]))
    if not is_telling(telling):
        raise NoText(0)
    return telling


def telling_read_at(number, text):
    """The telling that the text writes; where it writes none, its number is told."""
    try:
        return telling_read(text)
    except NoText:
        raise NoText(number) from None


def tellings_read(text):
    """The tellings that the text writes."""
    check_text(text)
    if text == NO_TELLINGS:
        return ()
    tellings = [telling_read_at(number, each) for number, each in enumerate(text.split("; "))]
    # Only behind all of them: one that writes no telling is told first, wherever it stands.
    if len(tellings) > MOST_TELLINGS:
        raise NoText(MOST_TELLINGS)
    return tuple(tellings)
