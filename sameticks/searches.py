"""The search for pauses with which a program says wanted words in wanted ticks.

All ways to put pauses are followed at once, tick by tick. A way ends where it says another word than the
wanted one. Of several ways that have come to the same point, only the best one is followed further: what is
still to come is the same for all of them, and puts nothing at the places where they differ, as each of them
has passed these for the last time.
"""


def best_rows(plan, wanted, budget):
    """The best rows with which the plan says just the words that are wanted in each tick, or None.

    The best ones have the least sum, which is at most the budget, and are the first ones of these. A row is a
    pair of the number of a place and a count.
    """
    search = Search(plan, budget)
    best = None
    ways = [Way()]
    tick = 0
    while len(ways) > 0:
        words = wanted[tick] if tick < len(wanted) else []
        tick += 1
        ways = _best_of_each_point(search.ways_through_tick(ways, words))
        for way in ways:
            if len(way.present) == 0 and tick >= len(wanted) and (best is None or way.cost() < best.cost()):
                best = way
        ways = [way for way in ways if len(way.present) > 0]
    return None if best is None else best.rows


def _first_rows(places, count):
    """The first ones of all rows that put so many pauses at these places, as tuples are ordered."""
    rows = [(place, 1) for place in places[:count]]
    last, _ = rows[-1]
    rows[-1] = (last, 1 + count - len(rows))
    return rows


def _best_of_each_point(ways):
    """Of all ways that have come to the same point the best one."""
    best = {}
    for way in ways:
        point = way.point()
        if point not in best or way.cost() < best[point].cost():
            best[point] = way
    return list(best.values())


class Way:
    """A way to put pauses, and how far its run is."""

    def __init__(self):
        # The jobs of the tick, and those of the next one: each a task, and the number of pauses that it
        # still does before it goes on.
        self.present = [(0, 0)]
        self.jobs_done = 0
        self.coming = []
        # How many words are said in the tick.
        self.said = 0
        # The tasks that act now, each started by the one before it.
        self.acting = []
        # How many steps each task has done that is started and not settled.
        self.done = {0: 0}
        # The task that follows another one, by that other one. Only the one that started it can do so.
        self.followers = {}
        # What is put at the places that are passed several times, for those that are passed already;
        # and pairs of such a place and what is put there, if it is something, ascending.
        self.fixed = {}
        self.kept = ()
        self.rows = ()
        self.spent = 0

    def branch(self):
        """Another way, so far the same."""
        other = Way()
        other.present = self.present
        other.jobs_done = self.jobs_done
        other.coming = list(self.coming)
        other.said = self.said
        other.acting = list(self.acting)
        other.done = dict(self.done)
        other.followers = dict(self.followers)
        other.fixed = dict(self.fixed)
        other.kept = self.kept
        other.rows = self.rows
        other.spent = self.spent
        return other

    def point(self):
        """All that what is still to come depends on, between two ticks."""
        return (tuple(sorted(self.done.items())), tuple(self.present), self.kept)

    def cost(self):
        """The less, the better."""
        return (self.spent, self.rows)

    def take_job(self):
        """Begins the next job of the tick."""
        task, pauses = self.present[self.jobs_done]
        self.jobs_done += 1
        if pauses > 0:
            self.coming.append((task, pauses - 1))
        else:
            self.acting.append(task)

    def start(self, task):
        """Lets a task act ahead of the one that acts now."""
        self.done[task] = 0
        self.acting.append(task)

    def pause(self, pauses):
        """Lets the acting task stop for so many pauses, one or more."""
        task = self.acting.pop()
        self.coming.append((task, pauses - 1))

    def wait(self, other):
        """Lets the acting task wait for another one, which it has started."""
        if other in self.done:
            self.followers[other] = self.acting.pop()
        else:
            self.pause(1)

    def settle(self):
        """Settles the acting task."""
        task = self.acting.pop()
        del self.done[task]
        if task in self.followers:
            self.coming.append((self.followers.pop(task), 0))

    def end_tick(self):
        """Goes over to the next tick."""
        self.present = self.coming
        self.jobs_done = 0
        self.coming = []
        self.said = 0


class Search:
    """The ways through a plan with at most so many pauses."""

    def __init__(self, plan, budget):
        self.plan = plan
        self.budget = budget
        self.passed = plan.places_passed()

    def ways_through_tick(self, ways, words):
        """All ways that continue these ways through a tick in which just the words are said."""
        found = []
        left = list(ways)
        while len(left) > 0:
            way = left.pop()
            if self._does_tick(way, words, left):
                found.append(way)
        return found

    def _does_tick(self, way, words, left):
        """Follows a way through a tick; puts other ways that branch off into `left`."""
        while True:
            if len(way.acting) > 0:
                if not self._does_step(way, words, left):
                    return False
            elif way.jobs_done < len(way.present):
                way.take_job()
            else:
                fits = way.said == len(words)
                way.end_tick()
                return fits

    def _does_step(self, way, words, left):
        """Lets the acting task do a step; tells False if it says a word that is not wanted."""
        task = way.acting[-1]
        steps = self.plan.steps[task]
        at = way.done[task]
        if at == len(steps):
            way.settle()
            return True
        way.done[task] = at + 1
        step = steps[at]
        kind = step[0]
        if kind == "say":
            way.said += 1
            return way.said <= len(words) and words[way.said - 1] == step[1]
        if kind == "pause":
            way.pause(1)
        elif kind == "start":
            way.start(step[1])
        elif kind == "wait":
            way.wait(step[1])
        else:
            self._pass_place(way, step[1], left)
        return True

    def _pass_place(self, way, place, left):
        """Puts pauses at the place if that is fixed, or else none; then other ways put some there."""
        if place in way.fixed:
            if way.fixed[place] > 0:
                way.pause(way.fixed[place])
            return
        for count in range(1, self.budget - way.spent + 1):
            other = way.branch()
            other.spent += count
            other.rows = tuple(sorted([*way.rows, *_first_rows(self.plan.groups[place], count)]))
            self._fix(other, place, count)
            other.pause(count)
            left.append(other)
        self._fix(way, place, 0)

    def _fix(self, way, place, count):
        """Has the way put the same number at the place each time."""
        if self.passed[place] > 1:
            way.fixed[place] = count
            if count > 0:
                way.kept = tuple(sorted([*way.kept, (place, count)]))
