"""Programs, contexts and frames: what they are, how great, and which places they have."""

from sameticks.errors import BadContext, BadFrame, BadProgram, NoSuchPlace

SIGNS = "abcdefghijklmnopqrstuvwxyz0123456789"
MAX_WORD = 8
VARIABLES = ("a", "b", "c", "d")
MAX_COUNT = 100

MAX_BODIES = 8
MAX_STATEMENTS = 40
MAX_DEPTH = 2
MAX_SIZE = 600

MAX_CONTEXT_BODIES = 7
MAX_FRAME_BODIES = 4
MAX_FRAME_SIZE = 20


def check_program(program):
    """Raises BadProgram if this is no program."""
    if not 1 <= len(program) <= MAX_BODIES:
        raise BadProgram()
    if not _are_bodies(program, len(program)):
        raise BadProgram()
    if max(body_sizes(program)) > MAX_SIZE:
        raise BadProgram()


def check_context(context):
    """Raises BadContext if this is no context."""
    if not 1 <= len(context) <= MAX_CONTEXT_BODIES:
        raise BadContext()
    # One more than in a program: the number of bodies itself is the hole.
    if not _are_bodies(context, len(context) + 1):
        raise BadContext()


def check_frame(frame):
    """Raises BadContext if this is no context, and then BadFrame if it is no frame."""
    check_context(frame)
    if len(frame) > MAX_FRAME_BODIES:
        raise BadFrame()
    if max(body_sizes(frame)) > MAX_FRAME_SIZE:
        raise BadFrame()
    hole = len(frame)
    everywhere = [_count_starts(all_statements(body), hole) for body in frame]
    allowed = _count_starts(_statements_outside_repeats(frame[0]), hole)
    if sum(everywhere) != 1 or allowed != 1:
        raise BadFrame()


def check_place(program, body, statement):
    """Raises NoSuchPlace if the program has no such place."""
    if not 0 <= body < len(program):
        raise NoSuchPlace()
    # The number of all statements is a place, too: the end of the body.
    if not 0 <= statement <= len(all_statements(program[body])):
        raise NoSuchPlace()


def body_sizes(program):
    """The sizes of all bodies. In a context, to start the hole counts nothing for the hole."""
    sizes = [0] * (len(program) + 1)
    # Bodies start only later ones, so the sizes of those have to be there first.
    for number in reversed(range(len(program))):
        sizes[number] = 1 + _block_size(program[number], sizes)
    return tuple(sizes[:-1])


def is_word(text):
    """Whether a string is a word."""
    if not 1 <= len(text) <= MAX_WORD:
        return False
    for sign in text:
        if sign not in SIGNS:
            return False
    return True


def inner_blocks(statement):
    """The block and the handler of a try, the block of a repeat; nothing of other statements."""
    if statement[0] == "try":
        return (statement[1], statement[2])
    if statement[0] == "repeat":
        return (statement[2],)
    return ()


def all_statements(block):
    """All statements, those in blocks and handlers included, in the order of the text."""
    found = []
    for statement in block:
        found.append(statement)
        for inner in inner_blocks(statement):
            found.extend(all_statements(inner))
    return found


def _statements_outside_repeats(block):
    found = []
    for statement in block:
        found.append(statement)
        if statement[0] != "repeat":
            for inner in inner_blocks(statement):
                found.extend(_statements_outside_repeats(inner))
    return found


def _count_starts(statements, number):
    """How many of the statements start the body of this number."""
    total = 0
    for statement in statements:
        if statement[0] == "start" and statement[1] == number:
            total += 1
    return total


def _block_size(block, sizes):
    total = 1
    for statement in block:
        total += _statement_size(statement, sizes)
    return total


def _statement_size(statement, sizes):
    kind = statement[0]
    if kind == "start":
        return 1 + sizes[statement[1]]
    if kind == "try":
        return 2 + _block_size(statement[1], sizes) + _block_size(statement[2], sizes)
    if kind == "repeat":
        return 2 + statement[1] * (1 + _block_size(statement[2], sizes))
    return 1


def _are_bodies(bodies, end):
    """Whether all bodies are allowed, if start statements name numbers below `end`."""
    for number, body in enumerate(bodies):
        if not _is_block(body, 0, number, end):
            return False
        if len(all_statements(body)) > MAX_STATEMENTS:
            return False
    return True


def _is_block(block, depth, number, end):
    """Whether a block so deep in the body of this number is allowed."""
    # Asked ahead of the statements: what is passed may be nested far deeper than is allowed.
    if depth > MAX_DEPTH:
        return False
    for statement in block:
        if not _is_statement(statement, depth, number, end):
            return False
    return True


def _is_statement(statement, depth, number, end):
    kind = statement[0]
    if kind == "say":
        return is_word(statement[1])
    if kind == "start":
        return number < statement[1] < end and statement[2] in VARIABLES
    if kind == "wait" or kind == "adopt":
        return statement[1] in VARIABLES
    if kind == "repeat" and not 0 <= statement[1] <= MAX_COUNT:
        return False
    for block in inner_blocks(statement):
        if not _is_block(block, depth + 1, number, end):
            return False
    return True
