"""Turns: single starts and jobs of a run, done so that they can be taken back."""


class Turn:
    """What a run was ahead of a start from outside (then `job` is None), or ahead of its next job.

    Of the tasks that were there, a start changes none, and a job only the one that goes on with it and, if that
    begins to follow another one, the followers of this.
    """

    def __init__(self, run, job):
        self.job = job
        self.now = run.now
        self.queued = len(run.queue)
        self.started = len(run.started)
        self.said = len(run.said)
        self.done = 0
        self.children = 0
        if job is not None:
            task = run.started[job[1]]
            self.done = task.done
            self.children = len(task.children)


def start_turn(run, body):
    """Starts a task of a body in a run; returns the turn."""
    turn = Turn(run, None)
    run.start(body)
    return turn


def job_turn(run):
    """Does the next job of a run, which has one; returns the turn."""
    turn = Turn(run, run.queue[0])
    run.step()
    return turn


def take_back(run, turn):
    """Makes a run what it was ahead of the turn, the latest one that was not taken back."""
    own_job = 0 if turn.job is None else 1
    while len(run.queue) > turn.queued - own_job:
        run.queue.pop()
    if turn.job is not None:
        run.put_back(turn.job)
        _take_back_steps(run, turn)
    del run.started[turn.started:]
    del run.said[turn.said:]
    run.now = turn.now


def _take_back_steps(run, turn):
    """Makes the task that went on with the job of the turn what it was before."""
    task = run.started[turn.job[1]]
    last = task.trace.steps[task.done - 1]
    # If what it waited for latest is not settled, it has just begun to follow it.
    if last[0] == "wait":
        other = run.started[task.children[last[1]]]
        if not other.settled:
            other.followers.pop()
    task.settled = False
    task.done = turn.done
    del task.children[turn.children:]
