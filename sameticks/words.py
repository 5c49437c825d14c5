"""Words: those that programs say, and new ones."""

from sameticks.programs import all_statements
from sameticks.tasks import run_program


def words_said(program):
    """The words that are said when the program is run, in order."""
    return tuple([entry[2] for entry in run_program(program)[0]])


def words_in(bodies):
    """The words of all say statements."""
    statements = [statement for body in bodies for statement in all_statements(body)]
    return [statement[1] for statement in statements if statement[0] == "say"]


def new_words(many, used):
    """So many words that are not used: numbers, the least first."""
    found = []
    number = 0
    while len(found) < many:
        if str(number) not in used:
            found.append(str(number))
        number += 1
    return found
