"""Systems, deeds and courses for the tests of several files."""

from halfsetup.deeds import refusal
from halfsetup.editions import Edition
from halfsetup.running import run
from halfsetup.stores import Store
from halfsetup.systems import System

SCRIPTS = ("clean", "enter", "leave", "setup")


def one_package(version=1, scripts=SCRIPTS):
    return System(Store((Edition("lib", version, scripts=scripts),)), {})


def random_store(chooser):
    editions = []
    for name in ("a", "b"):
        other = "b" if name == "a" else "a"
        for version in range(1, chooser.randint(1, 2) + 1):
            editions.append(Edition(
                name, version, scripts=tuple(script for script in SCRIPTS if chooser.random() < 0.5),
                needs=((other, chooser.randint(1, 2)),) if chooser.random() < 0.3 else (),
                first=((other, 1),) if chooser.random() < 0.2 else (),
                against=(other,) if chooser.random() < 0.1 else ()))
    return Store(tuple(editions))


def random_states(chooser, store):
    system = System(store, {})
    for name in store.names:
        version, done = chooser.choice(store.versions(name)), chooser.choice((0, *store.versions(name)))
        status = chooser.choice(("absent", "failed", "half", "left", "ready", "unpacked"))
        if status != "absent":
            system = system.with_state(name, (status, version, version if status == "ready" else done))
    return system


def random_system(chooser):
    return random_states(chooser, random_store(chooser))


def random_deed(chooser):
    kind, name = chooser.choice(("unpack", "unpack", "setup", "setup", "remove", "purge")), chooser.choice("aab")
    return (kind, name, chooser.randint(1, 2)) if kind == "unpack" else (kind, name)


def deeds_of(system):
    """All deeds that can begin, ascending, by asking for each."""
    deeds = [(kind, name) for kind in ("purge", "remove", "setup") for name in system.store.names]
    deeds += [("unpack", name, version) for name in system.store.names for version in system.store.versions(name)]
    return [deed for deed in sorted(deeds) if refusal(system, deed) is None]


def states_key(system):
    """What tells systems of one store apart, and puts them in their order."""
    return tuple(system.states.values())


def courses(system, deeds):
    """All courses, by trying all ways in which the calls of the deeds can fail.

    Each is a tuple (list of tuples (system before the deed, call, whether it failed), system at the end).
    """
    if not deeds:
        return [([], system)]
    if refusal(system, deeds[0]) is not None:
        return courses(system, deeds[1:])
    found = []
    for pattern in range(2 ** 8):
        fails = tuple(at for at in range(8) if pattern >> at & 1)
        later, calls = run(system, deeds[0], fails)
        if len(calls) <= 8 and all(fail < len(calls) for fail in fails):
            made = [(system, call, failed) for call, failed in calls]
            found += [(made + more, end) for more, end in courses(later, deeds[1:])]
    return found
