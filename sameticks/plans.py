"""Plans: the tasks of a run and their steps, as far as they can matter for what is said."""

from sameticks.traces import traces_of


class Plan:
    """The tasks of a run of a program, each with its steps.

    It is the same however pauses are put into the program, so the numbers of the tasks are its own: they do
    not tell the order in which the tasks are started. The program has marks ("place", number) at its places.
    A step is a say or pause statement, ("start", task), ("wait", task), or ("place", number) with the first
    one of a group of places: pauses at any of the group do the same. `groups` has all of each group.
    """

    def __init__(self, program):
        self._traces = traces_of(program)
        self._loud = _loud_bodies(self._traces)
        self._tasks = []
        self._add(0, True)
        self.groups = _groups_of_places(self._tasks)
        self.steps = [self._without_other_places(steps) for steps in self._tasks]

    def places_passed(self):
        """How often each place that stands in a step is passed in the run."""
        passed = {}
        for steps in self.steps:
            for step in steps:
                if step[0] == "place":
                    passed[step[1]] = passed.get(step[1], 0) + 1
        return passed

    def _without_other_places(self, steps):
        """The steps without the places that are not the first ones of their groups."""
        return [step for step in steps if step[0] != "place" or step[1] in self.groups]

    def _add(self, body, awaited):
        """Adds a task of a body, and those that it starts; returns its number."""
        number = len(self._tasks)
        steps = []
        self._tasks.append(steps)
        kept = self._steps_that_matter(body, awaited)
        waits = [step[1] for step in kept if step[0] == "wait"]
        children = []
        for step in kept:
            if step[0] == "start":
                child = None
                followed = len(children) in waits
                if followed or self._loud[step[1]]:
                    child = self._add(step[1], followed)
                    steps.append(("start", child))
                children.append(child)
            elif step[0] == "wait":
                steps.append(("wait", children[step[1]]))
            else:
                steps.append(step)
        return number

    def _steps_that_matter(self, body, awaited):
        """The steps of a task, up to the last one that can be noticed if nobody waits for the task."""
        steps = self._traces[body].steps
        end = len(steps)
        while not awaited and end > 0 and not _is_loud(steps[end - 1], self._loud):
            end -= 1
        return steps[:end]


def _loud_bodies(traces):
    """For each body, whether a task of it, or one that is started by it, says anything."""
    loud = {}
    for number in reversed(range(len(traces))):
        loud[number] = any([_is_loud(step, loud) for step in traces[number].steps])
    return loud


def _is_loud(step, loud):
    return step[0] == "say" or (step[0] == "start" and loud[step[1]])


def _groups_of_places(tasks):
    """Lists of places by their first ones: behind each, all tasks but pause until they come to the next one."""
    behind = {}
    ahead = {}
    for place, following in _neighbours(tasks):
        behind[place] = following if behind.get(place, following) == following else None
        ahead[following] = place if ahead.get(following, place) == place else None
    firsts = {}
    groups = {}
    for place in sorted([place for place in behind if place is not None]):
        leader = ahead[place]
        joins = leader is not None and behind[leader] == place
        firsts[place] = firsts[leader] if joins else place
        groups.setdefault(firsts[place], []).append(place)
    return groups


def _neighbours(tasks):
    """Pairs of a place and the one that the same task comes to next, having only paused; None if none."""
    found = []
    for steps in tasks:
        place = None
        for step in steps:
            if step[0] == "place":
                found.append((place, step[1]))
                place = step[1]
            elif step[0] != "pause":
                found.append((place, None))
                place = None
        found.append((place, None))
    return found
