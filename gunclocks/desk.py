"""A desk: a post that is told by lines of words, and answers by texts."""

from gunclocks.errors import NoLine, NoText
from gunclocks.post import Post
from gunclocks.texts import end_read, end_shown, part_read, part_shown, telling_shown, whole_read

NUMBER_FIGURES = 30
DONE = "ok"
NOTHING = "none"
# What each word behind the first one writes: a number, a part, or an end, that is a part or none.
FORMS = {
    "tells": ("part", "number", "number", "end", "end"),
    "sets": ("number", "part", "part"),
    "false": ("number",),
    "back": (),
    "stretch": ("number", "part"),
    "standing": (),
    "clock": ("number",),
    "narrowed": (),
    "error": ("number", "part", "part"),
}


def number_read(word):
    """The whole number from 0 on that the word writes."""
    number = whole_read(word)
    if number is None or number < 0 or len(word) > NUMBER_FIGURES:
        raise NoText(0)
    return number


def word_read(kind, word):
    """What the word writes, where it is to write a thing of this kind."""
    if kind == "number":
        return number_read(word)
    if kind == "end":
        return end_read(word)
    return part_read(word)


def words_read(kinds, words):
    """The list of what the words write, refused with NoText where one doesn't write a thing of its kind."""
    return [word_read(kind, word) for kind, word in zip(kinds, words)]


def line_read(line):
    """The first word of the line, and the list of what the words behind it write."""
    if not isinstance(line, str):
        raise NoLine("this is no text")
    words = line.split(" ")
    if words[0] not in FORMS:
        raise NoLine("no line begins so")
    kinds = FORMS[words[0]]
    if len(words) != len(kinds) + 1:
        raise NoLine("these are too few words, or too many")
    try:
        handed = words_read(kinds, words[1:])
    except NoText:
        raise NoLine("a word doesn't write what it should") from None
    return (words[0], handed)


def tells_answer(post, handed):
    """Tell the post of two clocks' errors; its number is the answer."""
    moment, one, other, low, high = handed
    return str(post.tells(moment, one, other, low, high))


def sets_answer(post, handed):
    """Tell the post that a clock was set."""
    clock, moment, jump = handed
    post.sets(clock, moment, jump)
    return DONE


def false_answer(post, handed):
    """Call a telling false."""
    post.calls_false(handed[0])
    return DONE


def back_answer(post, _):
    """Undo the last deed."""
    post.back()
    return DONE


def stretch_answer(post, handed):
    """Both ends of a clock's stretch at a moment."""
    clock, moment = handed
    low, high = post.stretch_at(clock, moment)
    return f"{end_shown(low)} {end_shown(high)}"


def standing_answer(post, _):
    """All tellings that stand, each behind its number."""
    shown = [f"{number} {telling_shown(telling)}" for number, telling in post.standing()]
    return "; ".join(shown) or NOTHING


def clock_answer(post, handed):
    """A clock's gain, and the moment and the jump of each of its sets."""
    gain, sets = post.clock_now(handed[0])
    shown = [f"{part_shown(moment)} {part_shown(jump)}" for moment, jump in sets]
    return "; ".join([part_shown(gain)] + shown)


def narrowed_answer(post, _):
    """The numbers of the clocks whose stretches the last deed made others."""
    return " ".join([str(entry[0]) for entry in post.narrowed()]) or NOTHING


def error_answer(post, handed):
    """A clock's error by the hour that it showed, or that it can't be."""
    clock, moment, hour = handed
    error = post.error_by(clock, moment, hour)
    if isinstance(error, str):
        return error
    return part_shown(error)


ANSWERS = {
    "tells": tells_answer,
    "sets": sets_answer,
    "false": false_answer,
    "back": back_answer,
    "stretch": stretch_answer,
    "standing": standing_answer,
    "clock": clock_answer,
    "narrowed": narrowed_answer,
    "error": error_answer,
}


class Desk:
    """A post of clocks of these gains, told and asked by lines."""

    def __init__(self, gains):
        self.post = Post(gains)
        self.gains = gains
        # A line is written in one way only: so the lines of the deeds that stand tell the deeds.
        self.deeds = []

    def say(self, line):
        """The answer to the line."""
        word, handed = line_read(line)
        action = ANSWERS[word]
        answer = action(self.post, handed)
        if word == "back":
            self.deeds.pop()
        elif word in ("tells", "sets", "false"):
            self.deeds.append(line)
        return answer

    def __eq__(self, other):
        return isinstance(other, Desk) and self.gains == other.gains and self.deeds == other.deeds

    def __len__(self):
        return len(self.deeds)

    def __repr__(self):
        return f"Desk({len(self.deeds)})"
