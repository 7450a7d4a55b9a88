"""Sights: which calls are made, and what they can meet."""

from halfsetup.courses import step
from halfsetup.deeds import refusal
from halfsetup.errors import UnknownName
from halfsetup.running import all_plays
from halfsetup.systems import order_key


def turns(system, deeds):
    """Return a list of tuples (deed, list of all systems in which it begins in some course)."""
    found = []
    reached = {order_key(system): (system, 1, 0)}
    for deed in deeds:
        systems = [one for one, count, fewest in reached.values()]
        found.append((deed, [one for one in systems if refusal(one, deed) is None]))
        reached = step(reached, deed)
    return found


def calls_in(store, state, deed):
    """Return the list of all calls, each once, that a deed can make on its package's state."""
    made = {}
    for fails, later, calls in all_plays(store, state, deed, ()):
        made.update({call: True for call, failed in calls})
    return list(made)


def calls_of(system, deeds):
    """Return the ascending list of all calls that are made in some course."""
    made = set()
    for deed, systems in turns(system, deeds):
        # Other packages do not change which calls are made.
        for state in sorted({one[deed[1]] for one in systems}):
            for call in calls_in(system.store, state, deed):
                made.add(call)
    return sorted(made)


def seen_by(system, deeds, name):
    """Return a dict from all calls of other packages to the tuples of statuses that a package has then."""
    if name not in system.store.names:
        raise UnknownName(f"the store has no package {name!r}")
    met = {}
    for deed, systems in turns(system, deeds):
        if deed[1] == name:
            continue
        for state, status in sorted({(one[deed[1]], one[name][0]) for one in systems}):
            for call in calls_in(system.store, state, deed):
                statuses = met.setdefault(call, {})
                statuses[status] = True
    return {call: tuple(sorted(met[call])) for call in sorted(met)}
