"""Frames: whether two are alike whatever program is put into them."""

from sameticks.edits import joined
from sameticks.profiles import are_alike, standard_program
from sameticks.programs import check_frame
from sameticks.traces import PAUSE
from sameticks.words import new_words, words_in

# Each statement that a frame does takes two ticks at most, and its size, in which all that it does is counted, is
# at most 20. So it is at rest after fewer ticks than these, but for the time for which it waits for the program.
REST = 40

# Where a program says its words, as seen by a task that waited for it: up to the tick in which the program is
# settled, and later ahead of the task or behind it.
UP_TO_SETTLED = 0
AHEAD = 1
BEHIND = 2


def alike_frames(one, other):
    """("alike",), or ("unlike", program) with a program that is not alike in them; raises BadContext, BadFrame.

    What comes of a program in a frame depends on its profile only, and the words of the profile are moved about
    as they are. So one program for each tick and way of being settled tells all, if each of its words is another
    one. When a program is settled later than both frames are at rest, it does not matter how much later.
    """
    check_frame(one)
    check_frame(other)
    for settled in range(REST + 1):
        for returned in (True, False):
            program = _talkative_program(one + other, settled, returned)
            if not _are_alike_with(one, other, program):
                return ("unlike", _telling_program(one, other, settled, returned))
    return ("alike",)


def _are_alike_with(one, other, program):
    return are_alike(joined(one, program), joined(other, program))


def _talkative_program(frames, settled, returned):
    """A program settled in this tick, with a word of its own wherever one can be said."""
    chances = _chances(settled)
    words = new_words(len(chances), words_in(frames))
    ticks = [() for _ in range(_silence(settled))]
    for (tick, _), word in zip(chances, words):
        ticks[tick] += (word,)
    # Of the words of each tick behind settled, the first one is said ahead of the place.
    before = (1,) * (len(ticks) - 1 - settled)
    return standard_program((tuple(ticks), settled, returned, before))


def _telling_program(one, other, settled, returned):
    """The first program that is not alike in the frames, of those with one word at most.

    If the talkative program is not alike in them, then one of these is not: it is a word's place among what the
    frame does that differs, since the words of the program keep their order in all frames.
    """
    say = ("say", new_words(1, words_in(one + other))[0])
    end = ("return",) if returned else ("fail",)
    programs = [((*_pauses(settled), end),)]
    for tick, side in _chances(settled):
        programs.append(_program_saying(say, tick, side, settled, end))
    at = 0
    while _are_alike_with(one, other, programs[at]):
        at += 1
    return programs[at]


def _chances(settled):
    """Where a program that is settled in this tick can say words: pairs of a tick and a side, in order."""
    chances = [(tick, UP_TO_SETTLED) for tick in range(settled + 1)]
    for tick in range(settled + 1, _silence(settled)):
        chances.append((tick, AHEAD))
        # Who waits for a program that is settled so early goes on behind all that it does.
        if settled >= 2:
            chances.append((tick, BEHIND))
    return chances


def _silence(settled):
    """The tick from which on the program says nothing: both frames have been at rest for one tick at least."""
    return settled + REST + 2


def _program_saying(say, tick, side, settled, end):
    """A program that does one say statement in the tick, on the side, and the end statement when it is settled."""
    if side == UP_TO_SETTLED:
        return ((*_pauses(tick), say, *_pauses(settled - tick), end),)
    later = (*_pauses(tick), say)
    if side == AHEAD:
        return ((("start", 1, "a"), *_pauses(settled), end), later)
    # Having waited for body 1, body 0 goes on between it and body 2.
    between = (("start", 1, "a"), ("start", 2, "b"), ("wait", "a"))
    return ((*between, *_pauses(settled - 2), end), (PAUSE,), later)


def _pauses(count):
    return (("repeat", count, (PAUSE,)),) if count > 0 else ()
