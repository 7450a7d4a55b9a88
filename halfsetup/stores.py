"""Stores: the editions that there are."""

from halfsetup.errors import InvalidStore, UnknownEdition, UnknownName, UnlikeStores

MOST_EDITIONS = 12
MOST_NAMES = 4


def wrong_index(editions):
    """Return the least index at which editions cannot be those of a store, or None."""
    if not editions:
        return 0
    keys = set()
    names = set()
    for at, edition in enumerate(editions):
        key = (edition.name, edition.version)
        names.add(edition.name)
        if key in keys or len(names) > MOST_NAMES or at >= MOST_EDITIONS:
            return at
        keys.add(key)
    return None


def versions_by_name(keys):
    """Return a dict from all names of keys, ascending, to the ascending tuples of their versions."""
    versions = {}
    for name, version in sorted(keys):
        versions[name] = (*versions.get(name, ()), version)
    return versions


class Store:
    """The editions that there are, found by their names and versions."""

    def __init__(self, editions):
        index = wrong_index(editions)
        if index is not None:
            raise InvalidStore(index)
        self.table = {(edition.name, edition.version): edition for edition in editions}
        self.numbers = versions_by_name(list(self.table))

    @property
    def names(self):
        """The ascending tuple of the names of all packages."""
        return tuple(self.numbers)

    def versions(self, name):
        """Return the ascending tuple of a package's versions."""
        if name not in self.numbers:
            raise UnknownName(f"the store has no package {name!r}")
        return self.numbers[name]

    def __len__(self):
        return len(self.table)

    def __contains__(self, x):
        # True equals 1 as a key, but is no version.
        return x in self.table and not isinstance(x[1], bool)

    def __getitem__(self, at):
        if at not in self:
            raise UnknownEdition("the store has no such edition")
        return self.table[at]

    def __iter__(self):
        raise TypeError("a store cannot be iterated over")

    def __eq__(self, other):
        return isinstance(other, Store) and self.table == other.table


def edition_keys(store):
    """Return the ascending list of the keys (name, version) of all editions."""
    return [(name, version) for name in store.names for version in store.versions(name)]


def check_alike(store, other):
    """Raise UnlikeStores if two stores are different."""
    if store != other:
        raise UnlikeStores("the stores are different")
