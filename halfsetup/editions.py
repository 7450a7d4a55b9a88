"""Editions: versions of packages."""

from halfsetup.checks import ascends, is_number, is_word
from halfsetup.errors import InvalidEdition

SCRIPTS = ("clean", "enter", "leave", "setup")
LEAST_VERSION = 1
MOST_VERSION = 99


def is_version(value):
    """Tell whether a value can be the version of an edition."""
    return is_number(value, LEAST_VERSION, MOST_VERSION)


def are_scripts(values):
    """Tell whether values are an ascending tuple of scripts."""
    if not isinstance(values, tuple):
        return False
    return all([value in SCRIPTS for value in values]) and ascends(values)


def are_other_names(values, name):
    """Tell whether values are an ascending tuple of names of packages other than the named one."""
    if not isinstance(values, tuple):
        return False
    return all([is_word(value) and value != name for value in values]) and ascends(values)


def is_pair_with_version(value):
    """Tell whether a value is a tuple of two, the second of which can be a version."""
    return isinstance(value, tuple) and len(value) == 2 and is_version(value[1])


def are_needs(values, name):
    """Tell whether values are a tuple of needs of the named package."""
    if not isinstance(values, tuple) or not all([is_pair_with_version(value) for value in values]):
        return False
    return are_other_names(tuple([value[0] for value in values]), name)


def wrong_part(name, version, scripts, needs, first, against):
    """Return the name of the first parameter that cannot be of an edition, or None."""
    checked = (
        ("name", is_word(name)),
        ("version", is_version(version)),
        ("scripts", are_scripts(scripts)),
        ("needs", are_needs(needs, name)),
        ("first", are_needs(first, name)),
        ("against", are_other_names(against, name)),
    )
    for part, right in checked:
        if not right:
            return part
    return None


class Edition:
    """A version of a package."""

    def __init__(self, name, version, *, scripts=SCRIPTS, needs=(), first=(), against=()):
        part = wrong_part(name, version, scripts, needs, first, against)
        if part is not None:
            raise InvalidEdition(part)
        self.parts = (name, version, scripts, needs, first, against)

    @property
    def name(self):
        """The name of the package."""
        return self.parts[0]

    @property
    def version(self):
        """The number of the version."""
        return self.parts[1]

    @property
    def scripts(self):
        """The scripts that the edition has."""
        return self.parts[2]

    @property
    def needs(self):
        """What must be met for the edition to be set up."""
        return self.parts[3]

    @property
    def first(self):
        """What must be met for the edition to be unpacked."""
        return self.parts[4]

    @property
    def against(self):
        """The names of the packages beside which the edition cannot be."""
        return self.parts[5]

    def __eq__(self, other):
        return isinstance(other, Edition) and self.parts == other.parts
