"""Loops: tasks that are started from outside, step by step, with undo."""

from sameticks.errors import NoSuchPlace, NoSuchTask, TooManyStarts
from sameticks.programs import check_program
from sameticks.tasks import Run
from sameticks.traces import traces_of
from sameticks.turns import job_turn, start_turn, take_back

MAX_STARTS = 20
RUNNING = "running"


class Loop:
    """A loop of a program; raises BadProgram if it is none."""

    def __init__(self, program):
        check_program(program)
        self._program = program
        self._run = Run(traces_of(program))
        # For each deed the list of its turns: one start, or jobs.
        self._deeds = []
        self._starts = 0

    def tick(self):
        """The tick of the latest job that was done, 0 if there was none."""
        return self._run.now

    def jobs(self):
        """How many jobs are queued."""
        return len(self._run.queue)

    def tasks(self):
        """How many tasks there are."""
        return len(self._run.started)

    def entries(self):
        """What was said."""
        return tuple(self._run.said)

    def outcome(self, task):
        """The outcome of a task; raises NoSuchTask."""
        if not 0 <= task < self.tasks():
            raise NoSuchTask()
        told = self._run.started[task]
        return told.trace.ending if told.settled else RUNNING

    def start(self, body):
        """Starts a task of a body; returns its number; raises NoSuchPlace, and then TooManyStarts."""
        if not 0 <= body < len(self._program):
            raise NoSuchPlace()
        if self._starts >= MAX_STARTS:
            raise TooManyStarts()
        number = self.tasks()
        self._deeds.append([start_turn(self._run, body)])
        self._starts += 1
        return number

    def step(self):
        """Does the next job; returns whether there was one."""
        turns = []
        if self.jobs() > 0:
            turns.append(job_turn(self._run))
        return self._remember(turns) == 1

    def step_tick(self):
        """Does all queued jobs that have the tick of the next one; returns how many."""
        turns = []
        queue = self._run.queue
        tick = queue[0][0] if self.jobs() > 0 else None
        # What is queued meanwhile has the next tick.
        while self.jobs() > 0 and queue[0][0] == tick:
            turns.append(job_turn(self._run))
        return self._remember(turns)

    def finish(self):
        """Does all jobs, also those that are queued meanwhile; returns how many."""
        turns = []
        while self.jobs() > 0:
            turns.append(job_turn(self._run))
        return self._remember(turns)

    def undo(self):
        """Takes the latest start, step, tick or finish back; returns whether there was one."""
        if len(self._deeds) == 0:
            return False
        turns = self._deeds.pop()
        for turn in reversed(turns):
            if turn.job is None:
                self._starts -= 1
            take_back(self._run, turn)
        return True

    def fork(self):
        """Another loop that has all that this one has."""
        other = Loop(self._program)
        other._run = self._run.fork()
        other._deeds = list(self._deeds)
        other._starts = self._starts
        return other

    def _remember(self, turns):
        """Remembers the jobs of a deed; returns how many. Without jobs it was none."""
        if len(turns) > 0:
            self._deeds.append(turns)
        return len(turns)
