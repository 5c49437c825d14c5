"""Logs: words that are explained by the moments at which tasks were started."""

from sameticks.errors import NoSuchPlace, TooMuch
from sameticks.loops import Loop
from sameticks.programs import body_sizes

MOST_STARTS = 3
MOST_WORDS = 12
MOST_SIZE = 30


def said_how(program, starts, words):
    """("moments", moments), or ("until", k); raises BadProgram, NoSuchPlace, TooMuch."""
    loop = Loop(program)
    _check_limits(program, starts, words)
    trial = Trial(loop, starts, words)
    moments = trial.first_moments(())
    if moments is None:
        return ("until", trial.most)
    return ("moments", moments)


class Trial:
    """All moments of the starts, tried one after the other in a loop.

    `most` is how many of the words are said at the beginning, with the best of the moments that were tried.
    """

    def __init__(self, loop, starts, words):
        self.most = 0
        self._loop = loop
        self._starts = starts
        self._words = words

    def first_moments(self, moments):
        """The first moments that begin with these and explain the words, or None.

        At these moments, the latest of which is now, tasks have been started in the loop.
        """
        if len(moments) == len(self._starts):
            return moments if self._is_explained() else None
        body = self._starts[len(moments)]
        moment = moments[-1] if len(moments) > 0 else 0
        found = self._first_with_start(body, moments, moment)
        steps = 0
        # Ahead of the first start there are no jobs: it is made at the beginning only.
        while found is None and self._loop.step():
            steps += 1
            found = self._first_with_start(body, moments, moment + steps)
        for _ in range(steps):
            self._loop.undo()
        return found

    def _first_with_start(self, body, moments, moment):
        """The same, with one more task that is started at the moment, which is now."""
        self._loop.start(body)
        found = self.first_moments((*moments, moment))
        self._loop.undo()
        return found

    def _is_explained(self):
        """Whether what is said when all jobs are done begins with the words."""
        jobs = self._loop.finish()
        said = [entry[2] for entry in self._loop.entries()]
        if jobs > 0:
            self._loop.undo()
        same = _length_of_same_beginning(said, self._words)
        self.most = max(self.most, same)
        return same == len(self._words)


def _check_limits(program, starts, words):
    """Raises NoSuchPlace, and then TooMuch."""
    for body in starts:
        if not 0 <= body < len(program):
            raise NoSuchPlace()
    if len(starts) > MOST_STARTS or len(words) > MOST_WORDS:
        raise TooMuch()
    sizes = body_sizes(program)
    if max([sizes[body] for body in starts], default=0) > MOST_SIZE:
        raise TooMuch()


def _length_of_same_beginning(one, other):
    length = 0
    for word, other_word in zip(one, other):
        if word != other_word:
            return length
        length += 1
    return length
