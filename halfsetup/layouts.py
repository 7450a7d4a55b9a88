"""Layouts: which files editions have, and which of them cannot be together."""

from halfsetup.checks import ascends, is_number, is_word
from halfsetup.editions import are_other_names
from halfsetup.errors import InvalidLayout
from halfsetup.stores import edition_keys

MOST_FILES = 6
MOST_CONTENT = 99


def is_file(value):
    """Tell whether a value is a tuple of a path and a content."""
    if not isinstance(value, tuple) or len(value) != 2:
        return False
    return is_word(value[0]) and is_number(value[1], 1, MOST_CONTENT)


def are_files(values):
    """Tell whether values can be the files of an edition."""
    if not isinstance(values, tuple) or len(values) > MOST_FILES:
        return False
    return all([is_file(value) for value in values]) and ascends([value[0] for value in values])


def are_takes(values, store, name):
    """Tell whether values can be the packages from which an edition of the named package takes files over."""
    return are_other_names(values, name) and all([value in store.names for value in values])


def check_layout(store, files, takes):
    """Raise InvalidLayout if files or takes cannot be those of a layout."""
    wrong_files = [key for key in files if key not in store or not are_files(files[key])]
    if wrong_files:
        raise InvalidLayout("files", min(wrong_files))
    wrong_takes = [key for key in takes if key not in store or not are_takes(takes[key], store, key[0])]
    if wrong_takes:
        raise InvalidLayout("takes", min(wrong_takes))


class Layout:
    """A store, the files that its editions have, and from which packages they may take files over."""

    def __init__(self, store, files, takes):
        check_layout(store, files, takes)
        self.held_store = store
        self.held_files = {key: files[key] for key in sorted(files)}
        self.held_takes = {key: takes[key] for key in sorted(takes)}

    @property
    def store(self):
        """The store of the layout."""
        return self.held_store

    @property
    def files(self):
        """A new dict from the keys that were passed, ascending, to tuples of files."""
        return {key: self.held_files[key] for key in self.held_files}

    @property
    def takes(self):
        """A new dict from the keys that were passed, ascending, to tuples of names."""
        return {key: self.held_takes[key] for key in self.held_takes}

    def __eq__(self, other):
        return (isinstance(other, Layout) and self.held_store == other.held_store
                and self.held_files == other.held_files and self.held_takes == other.held_takes)


def files_of(layout, key):
    """Return the tuple of an edition's files, tuples (path, content)."""
    return layout.files.get(key, ())


def paths_of(layout, key):
    """Return the ascending list of the paths of an edition's files."""
    return [path for path, content in files_of(layout, key)]


def takes_of(layout, key):
    """Return the tuple of the packages from which an edition takes files over."""
    return layout.takes.get(key, ())


def can_clash(layout, key, other):
    """Tell whether editions are of different packages, and neither takes files over from the other one's."""
    if key[0] == other[0]:
        return False
    return other[0] not in takes_of(layout, key) and key[0] not in takes_of(layout, other)


def clashes(layout, places):
    """Return the ascending list of all tuples (key, other key, place) of editions that would be rivals by places.

    The places are a dict from the keys of all editions to those at which their files are.
    """
    keys = edition_keys(layout.store)
    pairs = [(key, other) for key in keys for other in keys if key < other and can_clash(layout, key, other)]
    return sorted([(key, other, place) for key, other in pairs for place in places[key] if place in places[other]])


def rivals(layout):
    """Return the ascending list of all tuples (key, other key, path) of editions that cannot be together."""
    return clashes(layout, {key: paths_of(layout, key) for key in edition_keys(layout.store)})


def longest_first(keys):
    """Return what orders tuples of keys: the longer ones first, then in tuple order."""
    return (-len(keys), keys)


def most_together(layout):
    """Return the longest ascending tuple of keys of different packages without rivals, the first one of several."""
    apart = {(key, other): True for key, other, path in rivals(layout)}
    groups = [()]
    for key in edition_keys(layout.store):
        # The keys come in ascending order, so a group stays ascending, and a rival's key stands second.
        fitting = [group for group in groups
                   if not any([one[0] == key[0] or (one, key) in apart for one in group])]
        groups.extend([(*group, key) for group in fitting])
    return min(groups, key=longest_first)
