"""Charts: which deeds can begin in the systems of a store, and what comes of them, each found out once.

In a chart a system is told by its order key.
"""

from halfsetup.deeds import refusal
from halfsetup.running import all_plays
from halfsetup.stores import edition_keys
from halfsetup.systems import System, is_sound


def all_deeds(store):
    """Return the ascending list of all deeds that can begin in some system of a store."""
    deeds = [(kind, name) for kind in ("purge", "remove", "setup") for name in store.names]
    return sorted(deeds + [("unpack", name, version) for name, version in edition_keys(store)])


def view_of(key):
    """Return the statuses and versions of a system: neither refusals nor soundness ask for more."""
    return tuple([state[:2] for state in key])


def fewest_by_state(plays):
    """Return a list of tuples (state, fewest failures) of all states behind plays, in their order."""
    fewest = {}
    for fails, state, calls in plays:
        fewest[state] = min(len(fails), fewest.get(state, len(fails)))
    return list(fewest.items())


class Chart:
    """What can be done in the systems of a store, and what comes of it."""

    def __init__(self, store):
        self.held_store = store
        self.every_deed = all_deeds(store)
        self.places = {name: at for at, name in enumerate(store.names)}
        self.known_deeds = {}
        self.known_soundness = {}
        self.known_ends = {}

    def system_at(self, key):
        """Return the system of a key."""
        return System(self.held_store, dict(zip(self.held_store.names, key)))

    def deeds_at(self, key):
        """Return the ascending list of all deeds that can begin."""
        view = view_of(key)
        if view not in self.known_deeds:
            system = self.system_at(key)
            self.known_deeds[view] = [deed for deed in self.every_deed if refusal(system, deed) is None]
        return self.known_deeds[view]

    def sound_at(self, key):
        """Tell whether a system is sound."""
        view = view_of(key)
        if view not in self.known_soundness:
            self.known_soundness[view] = is_sound(self.system_at(key))
        return self.known_soundness[view]

    def state_ends(self, state, deed):
        """Return all tuples (state, fewest failures) that come of a deed, first the one without failures."""
        if (state, deed) not in self.known_ends:
            # The first play is the one in which nothing fails.
            self.known_ends[(state, deed)] = fewest_by_state(all_plays(self.held_store, state, deed, ()))
        return self.known_ends[(state, deed)]

    def ends_behind(self, key, deed):
        """Return all tuples (key, fewest failures) that come of a deed, first the one without failures."""
        at = self.places[deed[1]]
        return [(key[:at] + (state,) + key[at + 1:], failures) for state, failures in self.state_ends(key[at], deed)]

    def plain_end(self, key, deed):
        """Return the key that comes of a deed if no call fails."""
        at = self.places[deed[1]]
        return key[:at] + (self.state_ends(key[at], deed)[0][0],) + key[at + 1:]
