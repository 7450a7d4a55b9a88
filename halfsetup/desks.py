"""Desks: systems that change by operations, which can be undone and tried.

A step is a tuple (operation, system, number of all calls, dict of what is kept) of how things are behind an operation.
A timeline is a tuple of two tuples of steps: those in effect, a first one without an operation before them, and those
that were undone, the last one at the end. Nothing in it is ever changed, so a timeline can be put back whole.
"""

from halfsetup.checks import is_word
from halfsetup.errors import InvalidName, InvalidOperation, NoWay, UnknownKept
from halfsetup.running import run
from halfsetup.systems import is_sound
from halfsetup.ways import mend

ARGUMENT_COUNTS = {"act": 2, "mend_all": 0, "store_as": 1, "fetch": 1, "undo": 0, "redo": 0}


def is_operation(value):
    """Tell whether a value is a tuple of the name of an operation, and as many arguments as it takes."""
    if not isinstance(value, tuple) or len(value) == 0 or not isinstance(value[0], str):
        return False
    return value[0] in ARGUMENT_COUNTS and len(value) == 1 + ARGUMENT_COUNTS[value[0]]


def check_operations(operations):
    """Raise InvalidOperation if one of some operations is none."""
    for at, operation in enumerate(operations):
        if not is_operation(operation):
            raise InvalidOperation(at)


class Trial:
    """A block behind which a desk is as it was before, unless it is held."""

    def __init__(self, desk):
        self.desk = desk
        self.before = None

    def __enter__(self):
        self.before = self.desk.timeline
        return self

    def __exit__(self, kind, value, trace):
        if self.before is None:
            return
        self.desk.timeline = self.before

    def hold(self):
        """Let the desk stay as it is at the end of the block."""
        self.before = None


class Desk:
    """A system that changes."""

    def __init__(self, system):
        self.timeline = (((None, system, 0, {}),), ())

    @property
    def system(self):
        """The present system."""
        return self.timeline[0][-1][1]

    @property
    def call_count(self):
        """The number of all calls that were made by operations in effect."""
        return self.timeline[0][-1][2]

    @property
    def kept(self):
        """A new ascending list of all names under which a system is kept."""
        return sorted(self.timeline[0][-1][3])

    @property
    def history(self):
        """A new list of all operations in effect."""
        return [step[0] for step in self.timeline[0][1:]]

    def kept_systems(self):
        """Return the dict from names to the systems that are kept under them."""
        return self.timeline[0][-1][3]

    def go_on(self, operation, system, made, kept_systems):
        """Take an operation into effect that made so many calls."""
        step = (operation, system, self.call_count + made, kept_systems)
        self.timeline = ((*self.timeline[0], step), ())

    def act(self, deed, fails):
        """Execute a deed, and return how many calls were made."""
        later, made = run(self.system, deed, fails)
        self.go_on(("act", deed, fails), later, len(made), self.kept_systems())
        return len(made)

    def mend_all(self):
        """Execute the deeds that mend the system, none failing, and return how many these are."""
        found = mend(self.system)
        if found is None:
            raise NoWay("no deeds mend the system")
        deeds, later = found
        system = self.system
        count = 0
        for deed in deeds:
            system, made = run(system, deed, ())
            count += len(made)
        self.go_on(("mend_all",), later, count, self.kept_systems())
        return len(deeds)

    def store_as(self, name):
        """Keep the present system under a name, and return whether one was kept under it before."""
        if not is_word(name):
            raise InvalidName("the name is no word")
        before = self.kept_systems()
        self.go_on(("store_as", name), self.system, 0, {**before, name: self.system})
        return name in before

    def fetch(self, name):
        """Return to the system that was kept under a name last, and return whether it is sound."""
        if name not in self.kept_systems():
            raise UnknownKept("no system is kept under this name")
        system = self.kept_systems()[name]
        self.go_on(("fetch", name), system, 0, self.kept_systems())
        return is_sound(system)

    def undo(self):
        """Undo the last operation in effect, and return whether there was one."""
        done, undone = self.timeline
        if len(done) == 1:
            return False
        self.timeline = (done[:-1], (*undone, done[-1]))
        return True

    def redo(self):
        """Execute the operation once more that was undone last, and return whether there was one."""
        done, undone = self.timeline
        if not undone:
            return False
        # All is as it was before the operation, so the same comes of it.
        self.timeline = ((*done, undone[-1]), undone[:-1])
        return True

    def execute(self, operation):
        """Execute an operation that is told by a tuple, and return its result."""
        if operation[0] == "act":
            return self.act(operation[1], operation[2])
        if operation[0] == "mend_all":
            return self.mend_all()
        if operation[0] == "store_as":
            return self.store_as(operation[1])
        if operation[0] == "fetch":
            return self.fetch(operation[1])
        return self.undo() if operation[0] == "undo" else self.redo()

    def apply_all(self, operations):
        """Execute operations, and return the list of their results; if one raises an error, all is as before."""
        check_operations(operations)
        results = []
        with Trial(self) as trial:
            for operation in operations:
                results.append(self.execute(operation))
            trial.hold()
        return results

    def tried(self, operations, keep):
        """Execute operations, keep what they change only if told so, and return the list of their results."""
        with Trial(self) as trial:
            results = self.apply_all(operations)
            if keep:
                trial.hold()
        return results

    @classmethod
    def replay(cls, system, operations):
        """Return a desk after operations."""
        desk = cls(system)
        desk.apply_all(operations)
        return desk
