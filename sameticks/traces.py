"""Traces: what each body of a program does, step by step, with blocks, handlers and repeats written out.

Nothing that a task does depends on the tick: a body is executed without any input, and the tasks that
it waits for or adopts are always settled in the same way. So each body has one sequence of steps, which
all of its tasks do; only when they do them is left to the run.
"""

RETURNED = "returned"
FAILED = "failed"

# How a statement or a block is left: behind its end, by a failure at a point, or with the task ended.
ONWARD = 0
FAILING = 1
ENDED = 2

PAUSE = ("pause",)


class Trace:
    """The steps of a body, and how a task of it is settled behind the last of them.

    A step is ("start", body), or ("wait", child) with the number of the child among the tasks that the task
    has started, or a statement as it stands: say, pause, or a mark that was put into the program.
    """

    def __init__(self, steps, ending):
        self.steps = steps
        self.ending = ending


def traces_of(program):
    """The traces of all bodies of a program, which may be greater than a program may be."""
    found = {}
    # Bodies start only later ones, and how those end has to be known first.
    for number in reversed(range(len(program))):
        writer = Writer(found)
        found[number] = writer.trace_of(program[number])
    return [found[number] for number in range(len(program))]


class Writer:
    """Writes the trace of one body; `traces` has those of the later bodies by their numbers."""

    def __init__(self, traces):
        self.traces = traces
        self.steps = []
        self.children = []
        self.variables = {}
        self.ending = RETURNED

    def trace_of(self, body):
        """The trace of the body."""
        if self._do_block(body) == FAILING:
            self.ending = FAILED
        return Trace(self.steps, self.ending)

    def _do_block(self, block):
        """Writes the steps of a block; tells how it is left."""
        for statement in block:
            left = self._do_statement(statement)
            if left != ONWARD:
                return left
        return ONWARD

    def _do_statement(self, statement):
        """Writes the steps of a statement; tells how it is left."""
        kind = statement[0]
        if kind == "try":
            left = self._do_block(statement[1])
            return self._do_block(statement[2]) if left == FAILING else left
        if kind == "repeat":
            for _ in range(statement[1]):
                left = self._do_block(statement[2])
                if left != ONWARD:
                    return left
            return ONWARD
        if kind == "start":
            return self._start(statement[1], statement[2])
        if kind == "wait":
            return self._wait(statement[1])
        if kind == "adopt":
            return self._adopt(statement[1])
        if kind == "fail":
            return FAILING
        if kind == "return":
            return ENDED
        self.steps.append(statement)
        return ONWARD

    def _start(self, body, variable):
        self.variables[variable] = len(self.children)
        self.children.append(self.traces[body].ending)
        self.steps.append(("start", body))
        return ONWARD

    def _wait(self, variable):
        if variable not in self.variables:
            self.steps.append(PAUSE)
            return ONWARD
        child = self.variables[variable]
        self.steps.append(("wait", child))
        return FAILING if self.children[child] == FAILED else ONWARD

    def _adopt(self, variable):
        # To adopt is to pause and to wait, out of all handlers, and then to end as the other task did.
        if variable in self.variables:
            child = self.variables[variable]
            self.steps.append(PAUSE)
            self.steps.append(("wait", child))
            self.ending = self.children[child]
        return ENDED
