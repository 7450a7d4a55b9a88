"""Trees: systems with their files."""

from halfsetup.deeds import needs_name
from halfsetup.errors import InvalidTree, Refused
from halfsetup.layouts import files_of, paths_of, takes_of
from halfsetup.running import run
from halfsetup.stores import check_alike
from halfsetup.systems import ABSENT, System, is_there


def names_with_files(system):
    """Return the ascending list of the packages that are there, and not only in part."""
    return [name for name in system.store.names if is_there(system, name) and system[name][0] != "half"]


def key_of(system, name):
    """Return the key of the edition of a package's state."""
    return (name, system[name][1])


def owned_at_first(layout, system):
    """Return a dict from all paths to tuples (package, content), each package having its edition's files."""
    owned = {}
    doubled = []
    for name in names_with_files(system):
        for path, content in files_of(layout, key_of(system, name)):
            if path in owned:
                doubled.append(path)
            owned[path] = (name, content)
    if doubled:
        raise InvalidTree(min(doubled))
    return owned


def owners(owned):
    """Return the list of the packages that have files, once for each file."""
    return [name for name, content in owned.values()]


def owned_without(owned, name):
    """Return what is owned if a package has no files."""
    return {path: owned[path] for path in owned if owned[path][0] != name}


def owned_with(owned, layout, key):
    """Return what is owned if a package has the files of an edition, and no others."""
    kept = owned_without(owned, key[0])
    kept.update({path: (key[0], content) for path, content in files_of(layout, key)})
    return kept


def check_files(owned, layout, key):
    """Raise Refused if another package has a path of an edition that does not take files over from it."""
    allowed = (key[0], *takes_of(layout, key))
    for path in paths_of(layout, key):
        if path in owned and owned[path][0] not in allowed:
            raise Refused(("file", path, owned[path][0]))


def is_needed(system, name):
    """Tell whether a package that is ready has a name among its needs."""
    return any([needs_name(system, other, name) for other in system.store.names])


def without_vanished(system, owned, later, unpacked):
    """Return the system in which those packages are absent whose last file an unpack took over.

    What was owned is followed by what is owned later, and by the name of the package that was unpacked.
    """
    bare = [name for name in system.store.names
            if name != unpacked and name in owners(owned) and name not in owners(later)]
    # Whether a package is needed is asked before any of them is gone.
    gone = [name for name in bare if not is_needed(system, name)]
    states = system.states
    states.update({name: ABSENT for name in gone})
    return System(system.store, states)


class Tree:
    """A system with its files."""

    def __init__(self, layout, system):
        check_alike(layout.store, system.store)
        self.held_layout = layout
        self.held_system = system
        self.held_owned = owned_at_first(layout, system)

    @property
    def layout(self):
        """The layout of the tree."""
        return self.held_layout

    @property
    def system(self):
        """The system of the tree."""
        return self.held_system

    @property
    def owned(self):
        """A new dict from all paths that are there, ascending, to tuples (package, content)."""
        return {path: self.held_owned[path] for path in sorted(self.held_owned)}

    def after(self, deed):
        """Return the tree behind a deed no call of which fails."""
        system, calls = run(self.held_system, deed, ())
        if deed[0] == "unpack":
            return self.after_unpack(system, deed[1:])
        if deed[0] == "remove":
            return changed_tree(self.held_layout, system, owned_without(self.held_owned, deed[1]))
        return changed_tree(self.held_layout, system, self.held_owned)

    def after_unpack(self, system, key):
        """Return the tree behind an unpack of an edition, given the system behind it."""
        check_files(self.held_owned, self.held_layout, key)
        later = owned_with(self.held_owned, self.held_layout, key)
        return changed_tree(self.held_layout, without_vanished(system, self.held_owned, later, key[0]), later)

    def __eq__(self, other):
        return (isinstance(other, Tree) and self.held_layout == other.held_layout
                and self.held_system == other.held_system and self.held_owned == other.held_owned)


def changed_tree(layout, system, owned):
    """Return a tree whose packages have other files than at first."""
    # A tree of this system need not be possible at first, since two editions may have a path: begin with none there.
    tree = Tree(layout, System(layout.store, {}))
    tree.held_system = system
    tree.held_owned = owned
    return tree


def lost_paths(tree):
    """Return the ascending list of all tuples (path, package) of paths that an edition has, and its package not."""
    system, owned = tree.system, tree.owned
    lost = []
    for name in names_with_files(system):
        paths = paths_of(tree.layout, key_of(system, name))
        lost.extend([(path, name) for path in paths if path not in owned or owned[path][0] != name])
    return sorted(lost)
