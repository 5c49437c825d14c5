"""Runs: tasks on one queue of jobs, tick by tick."""

from collections import deque

from sameticks.traces import traces_of


def run_program(program):
    """What is said, how each task is settled, and the tick of the last job (0 if there was none)."""
    run = Run(traces_of(program))
    run.start(0)
    while run.step():
        pass
    endings = [task.trace.ending for task in run.started]
    return (tuple(run.said), tuple(endings), run.now)


class Task:
    """A task: the trace that it does, and how far it is."""

    def __init__(self, trace):
        self.trace = trace
        self.done = 0
        self.settled = False
        self.children = []
        self.followers = []

    def fork(self):
        """Another task that is as far as this one."""
        other = Task(self.trace)
        other.done = self.done
        other.settled = self.settled
        other.children = list(self.children)
        other.followers = list(self.followers)
        return other


class Run:
    """The tasks of a program (which may be greater than a program may be), and the queue of jobs.

    It is made of the traces of the program. A job is the pair of its tick and the number of the task that goes
    on with it.
    """

    def __init__(self, traces):
        self.traces = traces
        self.started = []
        self.queue = deque()
        self.now = 0
        self.said = []

    def fork(self):
        """Another run that is as far as this one."""
        other = Run(self.traces)
        other.started = [task.fork() for task in self.started]
        other.queue = deque(list(self.queue))
        other.now = self.now
        other.said = list(self.said)
        return other

    def start(self, body):
        """Starts a task of a body; returns its number."""
        number = len(self.started)
        self.started.append(Task(self.traces[body]))
        self._go_on(number)
        return number

    def step(self):
        """Does the next job; returns whether there was one."""
        if len(self.queue) == 0:
            return False
        tick, number = self.queue.popleft()
        self.now = tick
        self._go_on(number)
        return True

    def put_back(self, job):
        """Makes a job the next one again."""
        self.queue.appendleft(job)

    def _go_on(self, number):
        """Lets a task do its steps until it stops or is settled."""
        task = self.started[number]
        steps = task.trace.steps
        while task.done < len(steps):
            step = steps[task.done]
            task.done += 1
            kind = step[0]
            if kind == "pause":
                self._put_job(number)
                return
            if kind == "wait":
                self._follow(number, task.children[step[1]])
                return
            if kind == "say":
                self.said.append((self.now, number, step[1]))
            else:
                task.children.append(self.start(step[1]))
        self._settle(task)

    def _follow(self, number, child):
        other = self.started[child]
        if other.settled:
            self._put_job(number)
        else:
            other.followers.append(number)

    def _settle(self, task):
        task.settled = True
        for number in task.followers:
            self._put_job(number)

    def _put_job(self, number):
        self.queue.append((self.now + 1, number))
