"""A book of programs and of their users, which tells whom a change can reach."""

from sameticks.contexts import put_into, tell_apart
from sameticks.errors import NameTaken, NoSuchName, TooMuch, Unlike
from sameticks.profiles import profile_of
from sameticks.programs import check_frame, check_program

MOST_PROGRAMS = 8
MOST_USERS = 8
MOST_DEEDS = 20


class Book:
    """A book, at first an empty one."""

    def __init__(self):
        # These are never modified, only replaced, so that deeds and forks can share them.
        self._programs = {}
        self._users = {}
        # For each deed what it was, its name, and the programs and the users that were there before.
        self._deeds = []

    def programs(self):
        """The pairs (name, program), in the order in which they were added."""
        return tuple([(name, program) for name, program in self._programs.items()])

    def users(self):
        """The triples (name, frame, program's name), in the order in which they were added."""
        return tuple([(name, frame, used) for name, (frame, used) in self._users.items()])

    def log(self):
        """The deeds that can be undone, the first one first: pairs of what it was and a name."""
        return tuple([(deed, name) for deed, name, _, _ in self._deeds])

    def program(self, name):
        """The program of this name; raises NoSuchName."""
        if name not in self._programs:
            raise NoSuchName()
        return self._programs[name]

    def user(self, name):
        """The pair (frame, program's name) of a user; raises NoSuchName."""
        if name not in self._users:
            raise NoSuchName()
        return self._users[name]

    def told(self, name):
        """The profile of a user's frame with its program put into it; raises NoSuchName."""
        frame, used = self.user(name)
        return profile_of(put_into(frame, self._programs[used]))

    def add(self, name, program):
        """Adds a program; raises NameTaken, BadProgram, TooMuch."""
        if name in self._programs:
            raise NameTaken()
        check_program(program)
        if len(self._programs) >= MOST_PROGRAMS:
            raise TooMuch()
        self._remember("add", name)
        self._programs = {**self._programs, name: program}

    def use(self, name, frame, used):
        """Adds a user; raises NameTaken, BadContext, BadFrame, NoSuchName, BadProgram, TooMuch."""
        if name in self._users:
            raise NameTaken()
        check_frame(frame)
        put_into(frame, self.program(used))
        if len(self._users) >= MOST_USERS:
            raise TooMuch()
        self._remember("use", name)
        self._users = {**self._users, name: (frame, used)}

    def put(self, name, program):
        """Puts a program in the place of another one; returns the changed users; raises NoSuchName, BadProgram."""
        changed = self.changes(name, program)
        self._remember("put", name)
        self._programs = {**self._programs, name: program}
        return changed

    def changes(self, name, program):
        """What `put` would return; raises what it raises."""
        changed = []
        for user, one, other in self._results(name, program):
            apart = tell_apart(one, other)
            if apart is not None:
                changed.append((user, *apart))
        return tuple(changed)

    def keep(self, name, program):
        """Puts a program in the place of one that it is alike with; raises NoSuchName, BadProgram, Unlike."""
        # Only to refuse what is no program: no user can be changed by a program that is alike.
        self._results(name, program)
        apart = tell_apart(self._programs[name], program)
        if apart is not None:
            context, one, other = apart
            raise Unlike(context, one, other)
        self._remember("keep", name)
        self._programs = {**self._programs, name: program}

    def undo(self):
        """Takes the latest deed back; returns whether there was one."""
        if len(self._deeds) == 0:
            return False
        _, _, programs, users = self._deeds.pop()
        self._programs = programs
        self._users = users
        return True

    def fork(self):
        """Another book that has all that this one has."""
        other = Book()
        other._programs = self._programs
        other._users = self._users
        other._deeds = list(self._deeds)
        return other

    def _results(self, name, program):
        """For each user of the name: its name, and its frame with the elder and with the new program put into it.

        Raises NoSuchName, and then BadProgram if the new program, or what it makes in a frame, is none.
        """
        elder = self.program(name)
        check_program(program)
        results = []
        for user, (frame, used) in self._users.items():
            if used == name:
                results.append((user, put_into(frame, elder), put_into(frame, program)))
        return results

    def _remember(self, deed, name):
        """Remembers what is there before a deed, and forgets the eldest deed if there are too many."""
        self._deeds.append((deed, name, self._programs, self._users))
        if len(self._deeds) > MOST_DEEDS:
            del self._deeds[0]
