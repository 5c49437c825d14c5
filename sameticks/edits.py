"""Programs made of others. What is made may be greater than a program may be: nothing is checked."""


def joined(context, program):
    """The context with the program put into it."""
    return context + tuple([_renumbered(body, len(context)) for body in program])


def with_additions(program, additions):
    """The program with statements put at places; `additions` has them by (body, statement)."""
    bodies = []
    for number, body in enumerate(program):
        block, end = _with_additions_in(body, number, 0, additions)
        if (number, end) in additions:
            block += (additions[(number, end)],)
        bodies.append(block)
    return tuple(bodies)


def _renumbered(block, by):
    """The block with start statements that name numbers greater by so much."""
    statements = []
    for statement in block:
        kind = statement[0]
        if kind == "start":
            statements.append((kind, statement[1] + by, statement[2]))
        elif kind == "try":
            statements.append((kind, _renumbered(statement[1], by), _renumbered(statement[2], by)))
        elif kind == "repeat":
            statements.append((kind, statement[1], _renumbered(statement[2], by)))
        else:
            statements.append(statement)
    return tuple(statements)


def _with_additions_in(block, body, first, additions):
    """The block with what is put into it, and the number of the first statement behind it.

    The first statement of the block has the number `first` in the body.
    """
    statements = []
    at = first
    for statement in block:
        if (body, at) in additions:
            statements.append(additions[(body, at)])
        at += 1
        kind = statement[0]
        if kind == "try":
            inner, at = _with_additions_in(statement[1], body, at, additions)
            handler, at = _with_additions_in(statement[2], body, at, additions)
            statements.append((kind, inner, handler))
        elif kind == "repeat":
            inner, at = _with_additions_in(statement[2], body, at, additions)
            statements.append((kind, statement[1], inner))
        else:
            statements.append(statement)
    return (tuple(statements), at)
