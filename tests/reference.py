"""Runs and profiles once more, written straight from the words of the document, to compare with."""

import itertools
import random


class Failing(Exception):
    """A task fails at a point."""


class Ending(Exception):
    """A task returns, or adopts another one."""

    def __init__(self, adopted=None):
        self.adopted = adopted


class Task:

    def __init__(self, number):
        self.number = number
        self.variables = {}
        self.outcome = "running"
        self.jobs_behind = []
        self.rest = None


class Reference:
    """One run; jobs are pairs of a tick and something to call."""

    def __init__(self, program):
        self.program = program
        self.tasks = []
        self.jobs = []
        self.tick = 0
        self.entries = []

    def run(self):
        self.start(0)
        while self.jobs:
            self.tick, job = self.jobs.pop(0)
            job()
        return (tuple(self.entries), tuple(task.outcome for task in self.tasks), self.tick)

    def queue(self, job):
        self.jobs.append((self.tick + 1, job))

    def start(self, body):
        task = Task(len(self.tasks))
        self.tasks.append(task)
        task.rest = self.do_block(task, self.program[body])
        self.go_on(task, False)
        return task

    def go_on(self, task, failing):
        try:
            if failing:
                task.rest.throw(Failing())
            else:
                next(task.rest)
        except StopIteration:
            self.settle(task, "returned")
        except Failing:
            self.settle(task, "failed")
        except Ending as end:
            self.end(task, end.adopted)

    def end(self, task, adopted):
        if adopted is None:
            self.settle(task, "returned")
        else:
            self.queue(lambda: self.follow(adopted, lambda: self.settle(task, adopted.outcome)))

    def follow(self, other, job):
        if other.outcome == "running":
            other.jobs_behind.append(job)
        else:
            self.queue(job)

    def settle(self, task, outcome):
        task.outcome = outcome
        for job in task.jobs_behind:
            self.queue(job)

    def do_block(self, task, block):
        for statement in block:
            yield from self.do_statement(task, *statement)

    def do_statement(self, task, kind, *rest):
        other = task.variables.get(rest[0]) if kind in ("wait", "adopt") else None
        if kind == "say":
            self.entries.append((self.tick, task.number, rest[0]))
        elif kind == "pause" or (kind == "wait" and other is None):
            self.queue(lambda: self.go_on(task, False))
            yield
        elif kind == "start":
            task.variables[rest[1]] = self.start(rest[0])
        elif kind == "wait":
            self.follow(other, lambda: self.go_on(task, other.outcome == "failed"))
            yield
        elif kind == "fail":
            raise Failing()
        elif kind == "try":
            failed = False
            try:
                yield from self.do_block(task, rest[0])
            except Failing:
                failed = True
            if failed:
                yield from self.do_block(task, rest[1])
        elif kind == "repeat":
            for _ in range(rest[0]):
                yield from self.do_block(task, rest[1])
        else:
            raise Ending(other)


def run(program):
    return Reference(program).run()


def words(program):
    return tuple(word for _, _, word in run(program)[0])


def moved(statement, by):
    if statement[0] == "start":
        return ("start", statement[1] + by, statement[2])
    return tuple(
        tuple(moved(inner, by) for inner in part) if isinstance(part, tuple) else part for part in statement
    )


def put(context, program):
    """The context with the program put into it, not checked."""
    by = len(context)
    return context + tuple(tuple(moved(statement, by) for statement in body) for body in program)


def profile(program):
    """The profile, by what a task says that starts the program, waits for it, and then only pauses."""
    many = run(program)[2] + 2
    watch = (
        ("start", 1, "a"), ("try", (("wait", "a"),), (("say", "failed"),)),
        ("repeat", many, (("say", "place"), ("pause",))),
    )
    entries = run(put((watch,), program))[0]
    watching = [(tick, word) for tick, task, word in entries if task == 0]
    settled = watching[0][0] - 1
    spoken = [tick for tick, task, _ in entries if task != 0]
    ticks, before = [], []
    for tick in range(max(spoken, default=-1) + 1):
        here = [(task, word) for at, task, word in entries if at == tick]
        ticks.append(tuple(word for task, word in here if task != 0))
        if tick > settled:
            place = [task for task, _ in here].index(0)
            before.append(place)
    return (tuple(ticks), settled, watching[0][1] != "failed", tuple(before))


def with_rows(program, rows):
    """The program with pauses at several places, not checked."""
    counts = {(body, statement): count for body, statement, count in rows}
    return tuple(_filled(body, number, counts) for number, body in enumerate(program))


def _filled(body, number, counts):
    numbers = itertools.count()

    def pauses(at):
        count = counts.get((number, at))
        return () if count is None else (("repeat", count, (("pause",),)),)

    def fill(block):
        found = ()
        for statement in block:
            found += pauses(next(numbers))
            found += (tuple(fill(part) if isinstance(part, tuple) else part for part in statement),)
        return found

    filled = fill(body)
    return filled + pauses(next(numbers))


def places(program):
    found = []
    for number, body in enumerate(program):
        found += [(number, at) for at in range(count_statements(body) + 1)]
    return found


def count_statements(block):
    return sum(
        1 + sum(count_statements(part) for part in statement if isinstance(part, tuple))
        for statement in block
    )


def slack(program, body, statement, limit):
    said = words(program)
    counts = [
        count for count in range(limit + 2)
        if count > limit or words(with_rows(program, [(body, statement, count)])) != said
    ]
    return counts[0] - 1


def all_rows(program, total):
    """All rows for a program with this sum, in the order of tuples."""
    found = []
    for chosen in itertools.combinations_with_replacement(places(program), total):
        found.append(tuple(sorted((*place, chosen.count(place)) for place in set(chosen))))
    return sorted(set(found))


def fewest_pauses(program, other, limit):
    wanted = profile(other)
    for total in range(limit + 1):
        for rows in all_rows(program, total):
            if profile(with_rows(program, rows)) == wanted:
                return rows
    return None


class Programs:
    """Programs and contexts, always the same ones for the same seed."""

    def __init__(self, seed, many_words=2, weights=(6, 5, 6, 5, 1, 0.3, 0.7, 2, 1)):
        self.random = random.Random(seed)
        self.words = "xyzuvw"[:many_words]
        self.weights = weights

    def program(self, bodies, statements):
        return tuple(self.body(number, bodies, statements) for number in range(bodies))

    def context(self, bodies, statements):
        """One that starts the hole in body 0, and perhaps at other points."""
        found = [self.body(number, bodies + 1, statements) for number in range(bodies)]
        at = self.random.randint(0, len(found[0]))
        hole = ("start", bodies, self.random.choice("ab"))
        found[0] = found[0][:at] + (hole,) + found[0][at:]
        return tuple(found)

    def body(self, number, bodies, statements):
        return self.block(number, bodies, self.random.randint(0, statements), 2)

    def block(self, number, bodies, statements, depth):
        found = []
        while statements > 0:
            statement, many = self.statement(number, bodies, statements, depth)
            found.append(statement)
            statements -= many
        return tuple(found)

    def statement(self, number, bodies, statements, depth):
        kind = self.random.choices(
            ("say", "pause", "start", "wait", "adopt", "return", "fail", "try", "repeat"), self.weights
        )[0]
        if kind == "say":
            return ("say", self.random.choice(self.words)), 1
        if kind == "start" and number + 1 < bodies:
            return ("start", self.random.randint(number + 1, bodies - 1), self.random.choice("ab")), 1
        if kind in ("wait", "adopt"):
            return (kind, self.random.choice("aab")), 1
        if kind in ("return", "fail"):
            return (kind,), 1
        if kind in ("try", "repeat") and depth > 0:
            first = self.random.randint(0, statements - 1)
            block = self.block(number, bodies, first, depth - 1)
            if kind == "repeat":
                return ("repeat", self.random.randint(0, 3), block), 1 + first
            second = self.random.randint(0, statements - 1 - first)
            return ("try", block, self.block(number, bodies, second, depth - 1)), 1 + first + second
        return ("pause",), 1
