"""Runs and profiles once more, written straight from the words of the document, to compare with."""

import itertools
import random


class Failing(Exception):
    """A task fails at a point."""


class Ending(Exception):
    """A task returns, or adopts another one."""

    def __init__(self, adopted=None):
        self.adopted = adopted


class Task:

    def __init__(self, number):
        self.number = number
        self.variables = {}
        self.outcome = "running"
        self.jobs_behind = []
        self.rest = None


class Reference:
    """One run; jobs are pairs of a tick and something to call."""

    def __init__(self, program):
        self.program = program
        self.tasks = []
        self.jobs = []
        self.tick = 0
        self.entries = []

    def run(self):
        self.start(0)
        while self.jobs:
            self.step()
        return (tuple(self.entries), tuple(task.outcome for task in self.tasks), self.tick)

    def step(self):
        self.tick, job = self.jobs.pop(0)
        job()

    def queue(self, job):
        self.jobs.append((self.tick + 1, job))

    def start(self, body):
        task = Task(len(self.tasks))
        self.tasks.append(task)
        task.rest = self.do_block(task, self.program[body])
        self.go_on(task, False)
        return task

    def go_on(self, task, failing):
        try:
            if failing:
                task.rest.throw(Failing())
            else:
                next(task.rest)
        except StopIteration:
            self.settle(task, "returned")
        except Failing:
            self.settle(task, "failed")
        except Ending as end:
            self.end(task, end.adopted)

    def end(self, task, adopted):
        if adopted is None:
            self.settle(task, "returned")
        else:
            self.queue(lambda: self.follow(adopted, lambda: self.settle(task, adopted.outcome)))

    def follow(self, other, job):
        if other.outcome == "running":
            other.jobs_behind.append(job)
        else:
            self.queue(job)

    def settle(self, task, outcome):
        task.outcome = outcome
        for job in task.jobs_behind:
            self.queue(job)

    def do_block(self, task, block):
        for statement in block:
            yield from self.do_statement(task, *statement)

    def do_statement(self, task, kind, *rest):
        other = task.variables.get(rest[0]) if kind in ("wait", "adopt") else None
        if kind == "say":
            self.entries.append((self.tick, task.number, rest[0]))
        elif kind == "pause" or (kind == "wait" and other is None):
            self.queue(lambda: self.go_on(task, False))
            yield
        elif kind == "start":
            task.variables[rest[1]] = self.start(rest[0])
        elif kind == "wait":
            self.follow(other, lambda: self.go_on(task, other.outcome == "failed"))
            yield
        elif kind == "fail":
            raise Failing()
        elif kind == "try":
            failed = False
            try:
                yield from self.do_block(task, rest[0])
            except Failing:
                failed = True
            if failed:
                yield from self.do_block(task, rest[1])
        elif kind == "repeat":
            for _ in range(rest[0]):
                yield from self.do_block(task, rest[1])
        else:
            raise Ending(other)


def run(program):
    return Reference(program).run()


def words(program):
    return tuple(word for _, _, word in run(program)[0])


def moved(statement, by):
    if statement[0] == "start":
        return ("start", statement[1] + by, statement[2])
    return tuple(
        tuple(moved(inner, by) for inner in part) if isinstance(part, tuple) else part for part in statement
    )


def put(context, program):
    """The context with the program put into it, not checked."""
    by = len(context)
    return context + tuple(tuple(moved(statement, by) for statement in body) for body in program)


def profile(program):
    """The profile, by what a task says that starts the program, waits for it, and then only pauses."""
    many = run(program)[2] + 2
    watch = (
        ("start", 1, "a"), ("try", (("wait", "a"),), (("say", "failed"),)),
        ("repeat", many, (("say", "place"), ("pause",))),
    )
    entries = run(put((watch,), program))[0]
    watching = [(tick, word) for tick, task, word in entries if task == 0]
    settled = watching[0][0] - 1
    spoken = [tick for tick, task, _ in entries if task != 0]
    ticks, before = [], []
    for tick in range(max(spoken, default=-1) + 1):
        here = [(task, word) for at, task, word in entries if at == tick]
        ticks.append(tuple(word for task, word in here if task != 0))
        if tick > settled:
            place = [task for task, _ in here].index(0)
            before.append(place)
    return (tuple(ticks), settled, watching[0][1] != "failed", tuple(before))


def with_rows(program, rows):
    """The program with pauses at several places, not checked."""
    counts = {(body, statement): count for body, statement, count in rows}
    return tuple(_filled(body, number, counts) for number, body in enumerate(program))


def _filled(body, number, counts):
    numbers = itertools.count()

    def pauses(at):
        count = counts.get((number, at))
        return () if count is None else (("repeat", count, (("pause",),)),)

    def fill(block):
        found = ()
        for statement in block:
            found += pauses(next(numbers))
            found += (tuple(fill(part) if isinstance(part, tuple) else part for part in statement),)
        return found

    filled = fill(body)
    return filled + pauses(next(numbers))


def places(program):
    found = []
    for number, body in enumerate(program):
        found += [(number, at) for at in range(count_statements(body) + 1)]
    return found


def count_statements(block):
    return sum(
        1 + sum(count_statements(part) for part in statement if isinstance(part, tuple))
        for statement in block
    )


def slack(program, body, statement, limit):
    said = words(program)
    counts = [
        count for count in range(limit + 2)
        if count > limit or words(with_rows(program, [(body, statement, count)])) != said
    ]
    return counts[0] - 1


def all_rows(program, total):
    """All rows for a program with this sum, in the order of tuples."""
    found = []
    for chosen in itertools.combinations_with_replacement(places(program), total):
        found.append(tuple(sorted((*place, chosen.count(place)) for place in set(chosen))))
    return sorted(set(found))


def fewest_pauses(program, other, limit):
    wanted = profile(other)
    for total in range(limit + 1):
        for rows in all_rows(program, total):
            if profile(with_rows(program, rows)) == wanted:
                return rows
    return None


class Programs:
    """Programs and contexts, always the same ones for the same seed."""

    def __init__(self, seed, many_words=2, weights=(6, 5, 6, 5, 1, 0.3, 0.7, 2, 1)):
        self.random = random.Random(seed)
        self.words = "xyzuvw"[:many_words]
        self.weights = weights

    def program(self, bodies, statements):
        return tuple(self.body(number, bodies, statements) for number in range(bodies))

    def context(self, bodies, statements):
        """One that starts the hole in body 0, and perhaps at other points."""
        found = [self.body(number, bodies + 1, statements) for number in range(bodies)]
        at = self.random.randint(0, len(found[0]))
        hole = ("start", bodies, self.random.choice("ab"))
        found[0] = found[0][:at] + (hole,) + found[0][at:]
        return tuple(found)

    def body(self, number, bodies, statements):
        return self.block(number, bodies, self.random.randint(0, statements), 2)

    def block(self, number, bodies, statements, depth):
        found = []
        while statements > 0:
            statement, many = self.statement(number, bodies, statements, depth)
            found.append(statement)
            statements -= many
        return tuple(found)

    def statement(self, number, bodies, statements, depth):
        kind = self.random.choices(
            ("say", "pause", "start", "wait", "adopt", "return", "fail", "try", "repeat"), self.weights
        )[0]
        if kind == "say":
            return ("say", self.random.choice(self.words)), 1
        if kind == "start" and number + 1 < bodies:
            return ("start", self.random.randint(number + 1, bodies - 1), self.random.choice("ab")), 1
        if kind in ("wait", "adopt"):
            return (kind, self.random.choice("aab")), 1
        if kind in ("return", "fail"):
            return (kind,), 1
        if kind in ("try", "repeat") and depth > 0:
            first = self.random.randint(0, statements - 1)
            block = self.block(number, bodies, first, depth - 1)
            if kind == "repeat":
                return ("repeat", self.random.randint(0, 3), block), 1 + first
            second = self.random.randint(0, statements - 1 - first)
            return ("try", block, self.block(number, bodies, second, depth - 1)), 1 + first + second
        return ("pause",), 1


def frame_of(bodies, hole, at):
    """The bodies with a statement that starts the hole put into body 0; `at` tells the place, block by block.

    It is a tuple: the number of a statement; or first, for each try around, its number and 1 or 2 for its block
    or its handler.
    """
    return (_with_hole(bodies[0], ("start", len(bodies), hole), at),) + tuple(bodies[1:])


def _with_hole(block, start, at):
    if len(at) == 1:
        return block[:at[0]] + (start,) + block[at[0]:]
    number, part = at[:2]
    inner = list(block[number])
    inner[part] = _with_hole(inner[part], start, at[2:])
    return block[:number] + (tuple(inner),) + block[number + 1:]


def hole_places(block):
    """All places of a block that are not within a repeat, as `frame_of` takes them."""
    found = [(at,) for at in range(len(block) + 1)]
    for number, statement in enumerate(block):
        if statement[0] == "try":
            found += [(number, part) + at for part in (1, 2) for at in hole_places(statement[part])]
    return found


def pauses(count):
    return (("pause",),) * count


def simple_programs(settled, last, word="q"):
    """Programs settled in this tick that say nothing, or the word once in some tick up to the last one.

    Behind settled they say it ahead of the place, or, which needs 2 ticks or more, behind it.
    """
    say = (("say", word),)
    found = []
    for end in ((("return",),), (("fail",),)):
        found.append((pauses(settled) + end,))
        for tick in range(settled + 1):
            found.append((pauses(tick) + say + pauses(settled - tick) + end,))
        for tick in range(settled + 1, last + 1):
            later = pauses(tick) + say
            found.append(((("start", 1, "a"),) + pauses(settled) + end, later))
            if settled >= 2:
                starts = (("start", 1, "a"), ("start", 2, "b"), ("wait", "a"))
                found.append((starts + pauses(settled - 2) + end, pauses(1), later))
    return found


def loop_after(program, deeds):
    """A run after deeds from outside: ("start", body), or ("jobs", count)."""
    told = Reference(program)
    for kind, number in deeds:
        if kind == "start":
            told.start(number)
        else:
            for _ in range(number):
                told.step()
    return told


def moments_of(program, starts):
    """All moments that there are for starts, with the words that are said, in the order of the moments."""
    if not starts:
        return [((), ())]
    found = []
    for later in _later_moments(program, starts, (0,)):
        told = loop_after(program, _deeds(starts, later))
        while told.jobs:
            told.step()
        found.append((later, tuple(word for _, _, word in told.entries)))
    return sorted(found)


def _later_moments(program, starts, moments):
    if len(moments) == len(starts):
        return [moments]
    found = []
    told = loop_after(program, _deeds(starts, moments))
    moment = moments[-1]
    while True:
        found += _later_moments(program, starts, moments + (moment,))
        if not told.jobs:
            return found
        told.step()
        moment += 1


def _deeds(starts, moments):
    deeds = []
    done = 0
    for body, moment in zip(starts, moments):
        deeds += [("jobs", moment - done), ("start", body)]
        done = moment
    return deeds


def said_how(program, starts, said):
    """Which moments explain the words, or up to which of the words there are moments."""
    most = 0
    for moments, spoken in moments_of(program, starts):
        same = max(count for count in range(len(said) + 1) if spoken[:count] == said[:count])
        if same == len(said):
            return ("moments", moments)
        most = max(most, same)
    return ("until", most)
