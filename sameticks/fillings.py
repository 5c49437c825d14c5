"""Frames with a program in the hole that says a word of its own wherever one can be said."""

from sameticks.tasks import Run
from sameticks.traces import PAUSE, RETURNED, Trace, traces_of
from sameticks.watches import MARK

# Where a program says its words, as seen by a task that waited for it: up to the tick in which the program is
# settled, and later ahead of the task or behind it.
UP_TO_SETTLED = 0
AHEAD = 1
BEHIND = 2


class Filling:
    """A frame with such a program, which ends with the statement `end`."""

    def __init__(self, frame, end):
        self._traces = traces_of((*frame, (end,)))

    def rest(self):
        """The tick of the last job if the program is settled at once and says nothing."""
        run = Run(self._traces)
        run.start(0)
        while run.step():
            pass
        return run.now

    def log(self, settled, last):
        """What is said up to the last tick if the program is settled in its tick `settled`: pairs (tick, word).

        The words of the program are its chances. Another task waits for the frame, and from then on marks in each
        tick its place, and how the frame is settled.
        """
        hole = len(self._traces) - 1
        traces = self._traces[:hole] + _program_traces(hole, settled, last)
        run = Run([*traces, _watching_trace(self._traces[0].ending, last)])
        run.start(len(traces))
        # There is always a next job, as the watching task goes on until behind the last tick.
        while run.queue[0][0] <= last:
            run.step()
        return [(tick, word) for tick, _, word in run.said]


def chances(settled, last):
    """Where a program that is settled in this tick can say words up to the last tick: (tick, side), in order."""
    found = [(tick, UP_TO_SETTLED) for tick in range(settled + 1)]
    for tick in range(settled + 1, last + 1):
        found.append((tick, AHEAD))
        # Who waits for a program that is settled so early goes on behind all that it does.
        if settled >= 2:
            found.append((tick, BEHIND))
    return found


def heard(log, chance):
    """What is left of a log if the program says nothing but the word of this chance, or nothing (None).

    A word that is said or not changes nothing else that is done.
    """
    return [(tick, word) for tick, word in log if isinstance(word, str) or word == chance]


def _program_traces(first, settled, last):
    """The traces of the program's bodies, which are numbered from `first` on.

    They are written straight, as to make them of statements each time would take longer than the run. How the
    program ends stands in the traces of the frame already.
    """
    if settled < 2:
        steps = [("start", first + 1)] + [PAUSE] * settled
    else:
        # Having waited for the second one of these three, the program goes on between the others.
        steps = [("start", first + 1), ("start", first + 2), ("start", first + 3), ("wait", 1)]
        steps.extend([PAUSE] * (settled - 2))
    ahead = []
    behind = [PAUSE] * (settled + 1)
    for tick in range(last + 1):
        ahead.extend([("say", (tick, AHEAD if tick > settled else UP_TO_SETTLED)), PAUSE])
        if tick > settled:
            behind.extend([("say", (tick, BEHIND)), PAUSE])
    return [Trace(steps, RETURNED), Trace(ahead, RETURNED), Trace([PAUSE], RETURNED), Trace(behind, RETURNED)]


def _watching_trace(ending, last):
    """The trace of the task that watches a frame which ends so."""
    marking = [("say", MARK + ending), PAUSE]
    return Trace([("start", 0), ("wait", 0)] + marking * (last + 1), RETURNED)
