"""The errors that the program raises."""


class TickError(ValueError):
    """The base class of all errors that the program raises."""


class BadProgram(TickError):
    """What was given as a program is none."""


class BadContext(TickError):
    """What was given as a context is none."""


class BadFrame(TickError):
    """What was given as a frame is a context, but no frame."""


class NoSuchProfile(TickError):
    """No program has the profile."""


class NoSuchPlace(TickError):
    """The program has no such body, or the body no such place."""


class NoSuchTask(TickError):
    """The loop has no such task."""


class TooManyStarts(TickError):
    """No more tasks can be started from outside."""


class NoSuchName(TickError):
    """The book has nothing of this name."""


class NameTaken(TickError):
    """The book has something of this name already."""


class TooMuch(TickError):
    """A limit that the call sets is exceeded."""


class FaultyText(TickError):
    """A text is not the text of a program; `token` is the number of the token at fault."""

    def __init__(self, token):
        self.token = token


class Unlike(TickError):
    """Two programs are not alike; what `context` says with them is `one` and `other`."""

    def __init__(self, context, one, other):
        self.context = context
        self.one = one
        self.other = other
