"""Programs put into contexts, and contexts that tell programs apart."""

from sameticks.edits import joined
from sameticks.profiles import profile_of
from sameticks.programs import check_program
from sameticks.traces import PAUSE
from sameticks.words import new_words, words_said


def put_into(context, program):
    """The context with the program put into it; raises BadProgram if the result is no program."""
    result = joined(context, program)
    check_program(result)
    return result


def tell_apart(one, other):
    """None if the programs are alike; else a context, and what is said in it with the one and the other."""
    profile = profile_of(one)
    other_profile = profile_of(other)
    if profile == other_profile:
        return None
    context = _telling_context(profile, other_profile)
    return (context, words_said(joined(context, one)), words_said(joined(context, other)))


def _telling_context(one, other):
    """A context in which programs of these two profiles say different words.

    Its body 1 says a word at the beginning of each tick. Its body 0 waits for the program, and says another
    word in each tick at the place where it goes on, and a third one first if the program has failed. As no
    program of the two profiles says any of these words, the profile can be read from all that is said.
    """
    words = new_words(3, _words_of(one) + _words_of(other))
    # So many, that both words are said in the tick behind all in which anything is said or settled.
    many = 2 + max(len(one[0]), len(other[0]), one[1], other[1])
    begin, place, failed = [("say", word) for word in words]
    watch = (
        ("start", 1, "a"),
        ("start", 2, "b"),
        ("try", (("wait", "b"),), (failed,)),
        ("repeat", many, (place, PAUSE)),
    )
    return (watch, (("repeat", many, (begin, PAUSE)),))


def _words_of(profile):
    return [word for words in profile[0] for word in words]
