"""Runs of deeds: the calls that are made, and what comes of them if some fail."""

from halfsetup.deeds import refusal
from halfsetup.errors import Refused
from halfsetup.systems import ABSENT

# The statuses in which a package was set up, or was to be: only then it is left, and set up again to go back.
SET_UP = ("failed", "ready")


class Caller:
    """Makes the calls of one run, and knows the numbers of those that fail, and the scripts that always do."""

    def __init__(self, failing, faulty):
        self.failing = failing
        self.faulty = faulty
        self.made = []

    def fails(self, edition, script, reason, other):
        """Call a script if the edition has it, and tell whether that fails."""
        if script not in edition.scripts:
            return False
        failed = len(self.made) in self.failing or (edition.name, edition.version, script) in self.faulty
        self.made.append(((edition.name, edition.version, script, reason, other), failed))
        return failed


def install(caller, new, state):
    """Unpack an edition where no other one is whole, and return the state behind it."""
    status, old, done = state
    if not caller.fails(new, "enter", "install", old):
        return ("unpacked", new.version, done)
    if not caller.fails(new, "clean", "abort-install", old):
        return state
    return ("half", new.version, done)


def both_fail(caller, script, old, new):
    """Call the old edition's script for an upgrade, then the new one's instead; tell whether both fail."""
    return (caller.fails(old, script, "upgrade", new.version)
            and caller.fails(new, script, "failed-upgrade", old.version))


def upgrade(caller, old, new, state):
    """Unpack an edition in the place of another one, and return the state behind it."""
    done = state[2]
    if state[0] in SET_UP and both_fail(caller, "leave", old, new):
        failed = caller.fails(old, "setup", "abort-upgrade", new.version)
        return ("failed", old.version, done) if failed else state
    if caller.fails(new, "enter", "upgrade", old.version):
        return put_back(caller, old, new, state)
    if not both_fail(caller, "clean", old, new):
        return ("unpacked", new.version, done)
    if caller.fails(old, "enter", "abort-upgrade", new.version):
        return ("half", old.version, done)
    return put_back(caller, old, new, state)


def put_back(caller, old, new, state):
    """Put the old edition back, and return the state behind it."""
    done = state[2]
    if caller.fails(new, "clean", "abort-upgrade", old.version):
        return ("half", old.version, done)
    if state[0] in SET_UP and caller.fails(old, "setup", "abort-upgrade", new.version):
        return ("unpacked", old.version, done)
    return state


def unpack(caller, store, state, deed):
    """Unpack an edition, and return the state behind it."""
    kind, name, version = deed
    new = store[(name, version)]
    if state[0] in ("absent", "left", "half"):
        return install(caller, new, state)
    return upgrade(caller, store[(name, state[1])], new, state)


def set_up(caller, old, state):
    """Set a package up, and return the state behind it."""
    status, version, done = state
    if caller.fails(old, "setup", "configure", done):
        return ("failed", version, done)
    return ("ready", version, version)


def take_out(caller, old, state):
    """Remove a package, and return the state behind it."""
    status, version, done = state
    if status in SET_UP and caller.fails(old, "leave", "remove", 0):
        failed = caller.fails(old, "setup", "abort-remove", 0)
        return ("failed", version, done) if failed else state
    if caller.fails(old, "clean", "remove", 0):
        return ("half", version, done)
    return ("left", version, done)


def purge(caller, old, state):
    """Purge a package, and return the state behind it."""
    return state if caller.fails(old, "clean", "purge", 0) else ABSENT


ACTIONS = {"setup": set_up, "remove": take_out, "purge": purge}


def play(store, state, deed, fails, faulty=()):
    """Execute a deed that can begin on its package's state; return the state behind it, and the calls.

    The numbers of the calls that fail may be followed by scripts (name, version, script) that fail whenever called.
    """
    caller = Caller(fails, faulty)
    if deed[0] == "unpack":
        return (unpack(caller, store, state, deed), caller.made)
    action = ACTIONS[deed[0]]
    later = action(caller, store[(deed[1], state[1])], state)
    return (later, caller.made)


def all_plays(store, state, deed, fails):
    """Return all tuples (fails, state, calls) of runs that fail at first as told, in the order of the fails."""
    later, calls = play(store, state, deed, fails)
    plays = [(fails, later, calls)]
    # Runs with one more failure, an early one first: so the tuples of numbers come in their order.
    begin = fails[-1] + 1 if fails else 0
    for number in range(begin, len(calls)):
        plays.extend(all_plays(store, state, deed, (*fails, number)))
    return plays


def check_beginning(system, deed):
    """Raise Refused if a deed cannot begin."""
    why = refusal(system, deed)
    if why is not None:
        raise Refused(why)


def run(system, deed, fails):
    """Execute a deed, some calls of which fail; return the system behind it, and the list of all calls."""
    check_beginning(system, deed)
    state, calls = play(system.store, system[deed[1]], deed, fails)
    return (system.with_state(deed[1], state), calls)


def all_runs(system, deed):
    """Return the list of all runs of a deed that there can be, tuples (fails, system, calls)."""
    check_beginning(system, deed)
    plays = all_plays(system.store, system[deed[1]], deed, ())
    return [(fails, system.with_state(deed[1], state), calls) for fails, state, calls in plays]
