"""Systems: a store, and the states of its packages."""

from halfsetup.checks import is_number
from halfsetup.errors import InvalidSystem, UnknownName

ABSENT = ("absent", 0, 0)
STATUSES = ("absent", "failed", "half", "left", "ready", "unpacked")
THERE = ("failed", "half", "ready", "unpacked")
UNSOUND = ("failed", "half", "unpacked")


def is_state(store, name, state):
    """Tell whether a package of the store can have a state."""
    if not isinstance(state, tuple) or len(state) != 3:
        return False
    status, version, done = state
    if status == "absent":
        return is_number(version, 0, 0) and is_number(done, 0, 0)
    if status not in STATUSES or (name, version) not in store:
        return False
    if status == "ready":
        return is_number(done, version, version)
    return is_number(done, 0, 0) or (name, done) in store


def wrong_package(store, states):
    """Return the least name with which states cannot be those of a system, or None."""
    for name in sorted(states):
        if name not in store.names or not is_state(store, name, states[name]):
            return name
    return None


class System:
    """A store, and the states of its packages."""

    def __init__(self, store, states):
        package = wrong_package(store, states)
        if package is not None:
            raise InvalidSystem(package)
        self.held_store = store
        self.held_states = {name: states.get(name, ABSENT) for name in store.names}

    @property
    def store(self):
        """The store of the system."""
        return self.held_store

    @property
    def states(self):
        """A new dict from all names, ascending, to their states."""
        return dict(self.held_states)

    def with_state(self, name, state):
        """Return the system in which a package has another state."""
        if name not in self.held_states:
            raise UnknownName(f"the system has no package {name!r}")
        return System(self.held_store, {**self.held_states, name: state})

    def __getitem__(self, at):
        if at not in self.held_states:
            raise UnknownName("the system has no such package")
        return self.held_states[at]

    def __iter__(self):
        raise TypeError("a system cannot be iterated over")

    def __eq__(self, other):
        return (isinstance(other, System) and self.held_store == other.held_store
                and self.held_states == other.held_states)


def order_key(system):
    """Return the states of all packages in the order of the names, by which systems are ordered."""
    return tuple(system.states.values())


def is_there(system, name):
    """Tell whether files of a package are there, be it in part."""
    return system[name][0] in THERE


def edition_of(system, name):
    """Return the edition of the state of a package that is not absent."""
    return system.store[(name, system[name][1])]


def is_met(system, need):
    """Tell whether a need is met."""
    name, least = need
    if name not in system.store.names:
        return False
    status, version, done = system[name]
    return status == "ready" and version >= least


def unmet_names(system, needs):
    """Return the ascending list of the names of all needs that are not met."""
    return [need[0] for need in needs if not is_met(system, need)]


def are_against(edition, other):
    """Tell whether one of two editions is against the other one."""
    return other.name in edition.against or edition.name in other.against


def names_against(system, edition):
    """Return the ascending list of all packages that are against an edition."""
    others = [name for name in system.store.names if name != edition.name and is_there(system, name)]
    return [name for name in others if are_against(edition, edition_of(system, name))]


def is_upset(system, name):
    """Tell whether a package keeps its system from being sound."""
    status = system[name][0]
    if status != "ready":
        return status in UNSOUND
    edition = edition_of(system, name)
    return len(unmet_names(system, edition.needs)) > 0 or len(names_against(system, edition)) > 0


def is_sound(system):
    """Tell whether nothing is half done, lacks what it needs, or is against something."""
    return not any([is_upset(system, name) for name in system.store.names])
