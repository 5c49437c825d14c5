"""Frames: whether two are alike whatever program is put into them."""

from sameticks.fillings import AHEAD, UP_TO_SETTLED, Filling, chances, heard
from sameticks.programs import check_frame
from sameticks.traces import PAUSE
from sameticks.words import new_words, words_in

ENDS = (("return",), ("fail",))


def alike_frames(one, other):
    """("alike",), or ("unlike", program) with a program that is not alike in them; raises BadContext, BadFrame.

    What comes of a program in a frame depends on its profile only, and the words of the profile are moved about
    as they are. So one program for each tick and way of being settled tells all, if each of its words is another
    one.
    """
    check_frame(one)
    check_frame(other)
    pairs = [(end, Filling(one, end), Filling(other, end)) for end in ENDS]
    rest = max([max(filling.rest(), other_filling.rest()) for _, filling, other_filling in pairs])
    # Nothing that a frame does is delayed by more ticks than the program is. So both frames are at rest behind the
    # tick `settled + rest`, and one tick more shows in which order all goes on. What does not wait for the program
    # is done by the tick `rest`: when the program is settled later, it does not matter how much later.
    for settled in range(rest + 2):
        last = settled + rest + 1
        for end, filling, other_filling in pairs:
            log = filling.log(settled, last)
            other_log = other_filling.log(settled, last)
            if log != other_log:
                say = ("say", new_words(1, words_in(one + other))[0])
                chance = _telling_chance(log, other_log, chances(settled, last))
                return ("unlike", _program_saying(say, chance, settled, end))
    return ("alike",)


def _telling_chance(log, other_log, told):
    """None if the logs differ without the program's words, or else the first of the chances that tells them apart.

    If the logs differ with all words, then with one at most: it is a word's place among what the frame does that
    differs, since the words of the program keep their order in all frames.
    """
    chance = None
    at = 0
    while heard(log, chance) == heard(other_log, chance):
        chance = told[at]
        at += 1
    return chance


def _program_saying(say, chance, settled, end):
    """A program that does one say statement at the chance, or none, and the end statement when it is settled."""
    if chance is None:
        return ((*_pauses(settled), end),)
    tick, side = chance
    if side == UP_TO_SETTLED:
        return ((*_pauses(tick), say, *_pauses(settled - tick), end),)
    later = (*_pauses(tick), say)
    if side == AHEAD:
        return ((("start", 1, "a"), *_pauses(settled), end), later)
    # Having waited for body 1, body 0 goes on between it and body 2.
    between = (("start", 1, "a"), ("start", 2, "b"), ("wait", "a"))
    return ((*between, *_pauses(settled - 2), end), (PAUSE,), later)


def _pauses(count):
    return (("repeat", count, (PAUSE,)),) if count > 0 else ()
