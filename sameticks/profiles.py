"""Profiles: all that can be noticed of a program from outside."""

from sameticks.errors import NoSuchProfile
from sameticks.tasks import run_program
from sameticks.traces import PAUSE, RETURNED
from sameticks.watches import MARK, watched, words_by_tick


def profile_of(program):
    """The profile of a program: (ticks, settled, returned, before)."""
    last = run_program(program)[2]
    # With so many marks there is one in each tick behind settled in which anything can be said.
    entries, endings, _ = run_program(watched(program, last + 1))
    ticks = []
    places = {}
    for tick, words in enumerate(words_by_tick(entries)):
        if MARK in words:
            places[tick] = words.index(MARK)
        ticks.append(tuple([word for word in words if word != MARK]))
    while len(ticks) > 0 and len(ticks[-1]) == 0:
        ticks.pop()
    settled = min(list(places)) - 1
    before = [places[tick] for tick in range(settled + 1, len(ticks))]
    return (tuple(ticks), settled, endings[1] == RETURNED, tuple(before))


def are_alike(one, other):
    """Whether the same words are said in every context, whichever of the two programs is put into it."""
    return profile_of(one) == profile_of(other)


def is_profile(profile):
    """Whether some program has this profile."""
    ticks, settled, _, before = profile
    if settled < 0 or (len(ticks) > 0 and len(ticks[-1]) == 0):
        return False
    behind = ticks[settled + 1:]
    if len(before) != len(behind):
        return False
    for count, words in zip(before, behind):
        if not 0 <= count <= len(words):
            return False
        # One that goes on so early does so behind all jobs that the program has in that tick.
        if settled < 2 and count != len(words):
            return False
    return True


def standard_program(profile):
    """The standard program of a profile; raises NoSuchProfile if no program has it."""
    if not is_profile(profile):
        raise NoSuchProfile()
    ticks, settled, returned, before = profile
    behind = ticks[settled + 1:]
    ahead_of_place = [words[:count] for count, words in zip(before, behind)]
    behind_place = [words[count:] for count, words in zip(before, behind)]
    return (
        _settled_body(ticks, settled, returned),
        _later_body(settled, ahead_of_place),
        (PAUSE, *_says(_words_of(ticks, 1))),
        _later_body(settled, behind_place),
    )


def _settled_body(ticks, settled, returned):
    """Body 0 of a standard program, which is settled in its tick."""
    statements = [*_says(_words_of(ticks, 0)), ("start", 1, "a")]
    if settled == 1:
        statements.extend([PAUSE, *_says(_words_of(ticks, 1))])
    if settled >= 2:
        statements.extend([("start", 2, "b"), ("start", 3, "c"), ("wait", "b")])
        statements.extend(_says(_words_of(ticks, 2)))
        for tick in range(3, settled + 1):
            statements.extend([PAUSE, *_says(_words_of(ticks, tick))])
    statements.append(("return",) if returned else ("fail",))
    return tuple(statements)


def _later_body(settled, ticks):
    """A body that says words in the ticks behind settled."""
    statements = [("repeat", settled, (PAUSE,))]
    for words in ticks:
        statements.extend([PAUSE, *_says(words)])
    return tuple(statements)


def _words_of(ticks, tick):
    """The words of a tick; none behind the last one."""
    return ticks[tick] if tick < len(ticks) else ()


def _says(words):
    return [("say", word) for word in words]
