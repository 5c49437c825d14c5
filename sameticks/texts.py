"""Texts of programs: written, and read token by token."""

from sameticks.errors import FaultyText
from sameticks.programs import MAX_BODIES, MAX_COUNT, VARIABLES, check_program, is_word

KINDS = ("say", "pause", "start", "wait", "adopt", "return", "fail", "try", "repeat")


def text_of(program):
    """The text of a program."""
    tokens = []
    for number, body in enumerate(program):
        if number > 0:
            tokens.append(";")
        tokens.extend(_tokens_of_block(body))
    return " ".join(tokens)


def program_of(text):
    """The program of a text; raises FaultyText, and then BadProgram."""
    reader = Reader(text)
    bodies = [_read_body(reader)]
    while reader.ahead() == ";":
        reader.expect(";")
        bodies.append(_read_body(reader))
    program = tuple(bodies)
    check_program(program)
    return program


class Reader:
    """The tokens of a text, and how many of them have been read."""

    def __init__(self, text):
        self.tokens = _tokens_of_text(text)
        self.done = 0

    def ahead(self):
        """The first token that has not been read; the empty string behind the last one."""
        if self.done < len(self.tokens):
            return self.tokens[self.done]
        return ""

    def take(self, fits):
        """Reads the token ahead and returns it; refuses it if it does not fit."""
        token = self.ahead()
        if not fits:
            # Behind the last token this is the number of tokens and one more.
            raise FaultyText(self.done + 1)
        self.done += 1
        return token

    def one_of(self, tokens):
        """Reads one of these tokens and returns it."""
        return self.take(self.ahead() in tokens)

    def expect(self, token):
        """Reads this token."""
        self.one_of((token,))

    def word(self):
        """Reads a word and returns it."""
        return self.take(is_word(self.ahead()))

    def number(self, last):
        """Reads a number from 0 to the last one and returns it."""
        # Compared as strings, so that leading zeros and very long numbers need no care.
        return int(self.one_of([str(value) for value in range(last + 1)]))


def _tokens_of_text(text):
    spaced = text
    for sign in "{};":
        spaced = spaced.replace(sign, f" {sign} ")
    return [piece for piece in spaced.split(" ") if piece != ""]


def _read_body(reader):
    statements = []
    while reader.ahead() not in ("", ";"):
        statements.append(_read_statement(reader))
    return tuple(statements)


def _read_block(reader):
    reader.expect("{")
    statements = []
    while reader.ahead() != "}":
        statements.append(_read_statement(reader))
    reader.expect("}")
    return tuple(statements)


def _read_statement(reader):
    kind = reader.one_of(KINDS)
    if kind == "say":
        return (kind, reader.word())
    if kind == "start":
        number = reader.number(MAX_BODIES - 1)
        return (kind, number, reader.one_of(VARIABLES))
    if kind == "wait" or kind == "adopt":
        return (kind, reader.one_of(VARIABLES))
    if kind == "try":
        block = _read_block(reader)
        reader.expect("catch")
        return (kind, block, _read_block(reader))
    if kind == "repeat":
        count = reader.number(MAX_COUNT)
        return (kind, count, _read_block(reader))
    return (kind,)


def _tokens_of_block(block):
    tokens = []
    for statement in block:
        tokens.extend(_tokens_of_statement(statement))
    return tokens


def _tokens_of_statement(statement):
    kind = statement[0]
    if kind == "try":
        block = _tokens_of_block(statement[1])
        handler = _tokens_of_block(statement[2])
        return [kind, "{", *block, "}", "catch", "{", *handler, "}"]
    if kind == "repeat":
        block = _tokens_of_block(statement[2])
        return [kind, str(statement[1]), "{", *block, "}"]
    return [str(part) for part in statement]
