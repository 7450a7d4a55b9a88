"""Diversions: files that are put at other places, so that editions can be together.

Diversions are a dict from paths to tuples (name, other path).
"""

from halfsetup.errors import InvalidDiversions, UnknownEdition
from halfsetup.layouts import clashes, paths_of
from halfsetup.stores import edition_keys


def wrong_path(layout, diversions):
    """Return the least path that cannot be diverted so, or None."""
    taken = {path: True for key in edition_keys(layout.store) for path in paths_of(layout, key)}
    taken.update({path: True for path in diversions})
    for path in sorted(diversions):
        name, other = diversions[path]
        if name not in layout.store.names or other in taken:
            return path
        taken[other] = True
    return None


def check_diversions(layout, diversions):
    """Raise InvalidDiversions if diversions cannot be."""
    path = wrong_path(layout, diversions)
    if path is not None:
        raise InvalidDiversions(path)


def check_key(layout, key):
    """Raise UnknownEdition if the store of a layout has no such edition."""
    if key not in layout.store:
        raise UnknownEdition("the store has no such edition")


def place_of(diversions, name, path):
    """Return the place at which a package's file of a path is put."""
    if path not in diversions:
        return path
    owner, other = diversions[path]
    return path if owner == name else other


def places_of(layout, diversions, key):
    """Return the ascending tuple of the places at which the files of an edition are put."""
    return tuple(sorted([place_of(diversions, key[0], path) for path in paths_of(layout, key)]))


def placed(layout, diversions, key):
    """Return the ascending tuple of the places at which the files of an edition are put."""
    check_diversions(layout, diversions)
    check_key(layout, key)
    return places_of(layout, diversions, key)


def crowded(layout, diversions):
    """Return the ascending list of all tuples (key, other key, place) of editions that are put at one place."""
    check_diversions(layout, diversions)
    return clashes(layout, {key: places_of(layout, diversions, key) for key in edition_keys(layout.store)})


def names_by_path(layout, keys):
    """Return a dict from the paths of editions, ascending, to the lists of the packages that have them."""
    found = {}
    for key in keys:
        for path in paths_of(layout, key):
            found.setdefault(path, []).append(key[0])
    return {path: found[path] for path in sorted(found)}


def least_diversions(layout, keys):
    """Return the fewest diversions by which no two editions are put at one place, tuples (path, name), or None."""
    for key in keys:
        check_key(layout, key)
    names = names_by_path(layout, keys)
    # Only one of the packages keeps a path, and all others have the one other path.
    if any([len(names[path]) > 2 for path in names]):
        return None
    return [(path, min(names[path])) for path in names if len(names[path]) == 2]
