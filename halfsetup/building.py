"""Building: systems made of what their texts and codes tell."""

from halfsetup.editions import Edition
from halfsetup.stores import Store
from halfsetup.systems import System


def built_system(parts, states):
    """Return the system of a dict of states, and of a list of the parts of all editions.

    The parts of an edition are a tuple (name, version, scripts, needs, first, against).
    """
    editions = [Edition(name, version, scripts=scripts, needs=needs, first=first, against=against)
                for name, version, scripts, needs, first, against in parts]
    return System(Store(tuple(editions)), states)
