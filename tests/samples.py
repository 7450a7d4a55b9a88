"""Systems, deeds and courses for the tests of several files."""

from halfsetup.deeds import refusal
from halfsetup.editions import Edition
from halfsetup.layouts import Layout
from halfsetup.running import run
from halfsetup.stores import Store
from halfsetup.systems import System

SCRIPTS = ("clean", "enter", "leave", "setup")


def one_package(version=1, scripts=SCRIPTS):
    return System(Store((Edition("lib", version, scripts=scripts),)), {})


def random_store(chooser, names="ab", needing=0.3):
    editions = []
    for name in names:
        for version in range(1, chooser.randint(1, 2) + 1):
            other = chooser.choice(names.replace(name, ""))
            editions.append(Edition(
                name, version, scripts=tuple(script for script in SCRIPTS if chooser.random() < 0.5),
                needs=((other, chooser.randint(1, 2)),) if chooser.random() < needing else (),
                first=((other, 1),) if chooser.random() < 0.2 else (),
                against=(other,) if chooser.random() < 0.1 else ()))
    return Store(tuple(editions))


def random_states(chooser, store):
    system = System(store, {})
    for name in store.names:
        version, done = chooser.choice(store.versions(name)), chooser.choice((0, *store.versions(name)))
        status = chooser.choice(("absent", "failed", "half", "left", "ready", "unpacked"))
        if status != "absent":
            system = system.with_state(name, (status, version, version if status == "ready" else done))
    return system


def random_system(chooser):
    return random_states(chooser, random_store(chooser))


def random_deed(chooser, names="aab"):
    kind, name = chooser.choice(("unpack", "unpack", "setup", "setup", "remove", "purge")), chooser.choice(names)
    return (kind, name, chooser.randint(1, 2)) if kind == "unpack" else (kind, name)


def deeds_of(system):
    """All deeds that can begin, ascending, by asking for each."""
    deeds = [(kind, name) for kind in ("purge", "remove", "setup") for name in system.store.names]
    deeds += [("unpack", name, version) for name in system.store.names for version in system.store.versions(name)]
    return [deed for deed in sorted(deeds) if refusal(system, deed) is None]


def keys_of(store):
    return [(name, version) for name in store.names for version in store.versions(name)]


def random_layout(chooser, store, paths="pqrs"):
    """A layout in which some editions have some of the paths, or take files over, or have empty entries, or none."""
    files, takes = {}, {}
    for key in keys_of(store):
        if chooser.random() < 0.8:
            some = sorted(chooser.sample(paths, chooser.randint(0, min(3, len(paths)))))
            files[key] = tuple((path, chooser.randint(1, 99)) for path in some)
        if chooser.random() < 0.6:
            takes[key] = tuple(name for name in store.names if name != key[0] and chooser.random() < 0.6)
    return Layout(store, files, takes)


def paths_in(layout, key):
    return [path for path, content in layout.files.get(key, ())]


def states_key(system):
    """What tells systems of one store apart, and puts them in their order."""
    return tuple(system.states.values())


def courses(system, deeds):
    """All courses, by trying all ways in which the calls of the deeds can fail.

    Each is a tuple (list of tuples (system before the deed, call, whether it failed), system at the end).
    """
    if not deeds:
        return [([], system)]
    if refusal(system, deeds[0]) is not None:
        return courses(system, deeds[1:])
    found = []
    for pattern in range(2 ** 8):
        fails = tuple(at for at in range(8) if pattern >> at & 1)
        later, calls = run(system, deeds[0], fails)
        if len(calls) <= 8 and all(fail < len(calls) for fail in fails):
            made = [(system, call, failed) for call, failed in calls]
            found += [(made + more, end) for more, end in courses(later, deeds[1:])]
    return found


def random_needs(chooser, names, most):
    """Up to so many needs of names, some of which may be of no store."""
    some = sorted(chooser.sample(names, chooser.randint(0, most)))
    return tuple((name, chooser.choice((1, 2, 9, 10, 99))) for name in some)


def random_rich_system(chooser):
    """A system with up to four packages and 12 editions, all parts of which are as they like, but for three needs each."""
    names = chooser.sample(("a", "ab", "b", "lib", "zzzzzzzz", "abcdefgh"), chooser.randint(1, 4))
    keys = [(name, version) for name in names for version in chooser.sample(range(1, 100), chooser.randint(1, 3))]
    editions = []
    for name, version in keys:
        others = [other for other in ("a", "ab", "b", "lib", "x", "zzzzzzzz") if other != name]
        editions.append(Edition(
            name, version, scripts=tuple(script for script in SCRIPTS if chooser.random() < 0.7),
            needs=random_needs(chooser, others, 3), first=random_needs(chooser, others, 2),
            against=tuple(sorted(chooser.sample(others, chooser.randint(0, 3))))))
    return random_states(chooser, Store(tuple(editions)))
