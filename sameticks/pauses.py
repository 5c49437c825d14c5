"""Pauses put into programs: where they change nothing, and where they make one program like another."""

from sameticks.edits import with_additions
from sameticks.errors import TooMuch
from sameticks.plans import Plan
from sameticks.profiles import profile_of
from sameticks.programs import all_statements, check_place, check_program
from sameticks.searches import best_rows
from sameticks.tasks import run_program
from sameticks.traces import PAUSE
from sameticks.watches import watched, words_by_tick
from sameticks.words import words_said

MOST_PAUSES = 3


def with_pauses(program, body, statement, count):
    """The program with pauses put at a place; raises NoSuchPlace, and then BadProgram."""
    check_place(program, body, statement)
    result = _with_pauses_unchecked(program, body, statement, count)
    check_program(result)
    return result


def slack(program, body, statement, limit):
    """How many pauses, up to the limit, a place bears; raises NoSuchPlace."""
    check_place(program, body, statement)
    words = words_said(program)
    count = 0
    while count < limit:
        if words_said(_with_pauses_unchecked(program, body, statement, count + 1)) != words:
            return count
        count += 1
    return count


def fewest_pauses(program, other, limit):
    """The fewest pauses that make a program like another one: rows, or None; raises TooMuch."""
    if limit > MOST_PAUSES:
        raise TooMuch()
    ticks, settled, returned, _ = profile_of(other)
    # Pauses change only when a task is settled, not how.
    if profile_of(program)[2] != returned:
        return None
    # At least one mark, which tells settled, and one in each later tick in which the other program speaks.
    marks = max(1, len(ticks) - 1 - settled)
    wanted = words_by_tick(run_program(watched(other, marks))[0])
    places = _places_of(program)
    plan = Plan(watched(_with_marked_places(program, places), marks))
    for budget in range(limit + 1):
        rows = best_rows(plan, wanted, budget)
        if rows is not None:
            return tuple([(*places[place], count) for place, count in rows])
    return None


def _with_pauses_unchecked(program, body, statement, count):
    return with_additions(program, {(body, statement): ("repeat", count, (PAUSE,))})


def _places_of(program):
    """All places, in order, as pairs of a body and a statement."""
    places = []
    for number, body in enumerate(program):
        places.extend([(number, statement) for statement in range(len(all_statements(body)) + 1)])
    return places


def _with_marked_places(program, places):
    """The program with a mark put at each place, which tells its number among the places."""
    return with_additions(program, {place: ("place", number) for number, place in enumerate(places)})
