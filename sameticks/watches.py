"""Programs that are watched from outside, by a task that does nothing but wait, pause and mark its place."""

from sameticks.edits import joined
from sameticks.traces import PAUSE

# What the watching task says. It is no word, so no program says it.
MARK = "*"


def watched(program, marks):
    """A program in which task 0 starts the given one as task 1, directly waits for it, and then pauses.

    Task 0 says the mark where it goes on: first in the tick behind the one in which task 1 is settled, and
    so often in all, once in each tick.
    """
    waiting = ("try", (("wait", "a"),), ())
    marking = ("repeat", marks, (("say", MARK), PAUSE))
    return joined(((("start", 1, "a"), waiting, marking),), program)


def words_by_tick(entries):
    """The words of each tick, up to the last one in which any is said: a list of lists."""
    ticks = []
    for tick, _, word in entries:
        while len(ticks) <= tick:
            ticks.append([])
        ticks[tick].append(word)
    return ticks
