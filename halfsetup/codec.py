"""Codec: the codes of systems, lists of integers from 0 to 255."""

from halfsetup.building import built_system
from halfsetup.checks import LETTERS, LONGEST_WORD, is_number
from halfsetup.editions import LEAST_VERSION, MOST_VERSION, SCRIPTS
from halfsetup.errors import DecodeError
from halfsetup.stores import MOST_EDITIONS, edition_keys
from halfsetup.systems import ABSENT, STATUSES

FIRST_ITEM = 72
MOST_NEEDS = 3
ALL_SCRIPTS = 15


def checksum_of(items):
    """Return the checksum of all items before it."""
    checksum = 3
    for item in items:
        checksum = (13 * checksum + item) % 239
    return checksum


def name_items(name):
    """Return the list of the items of a name."""
    return [len(name), *[LETTERS.index(letter) + 1 for letter in name]]


def needs_items(needs):
    """Return the list of the items of needs."""
    found = [len(needs)]
    for name, least in needs:
        found.extend([*name_items(name), least])
    return found


def edition_items(edition):
    """Return the list of the items of an edition."""
    worths = [1 << at for at, script in enumerate(SCRIPTS) if script in edition.scripts]
    found = [*name_items(edition.name), edition.version, sum(worths)]
    found.extend(needs_items(edition.needs))
    found.extend(needs_items(edition.first))
    found.append(len(edition.against))
    for name in edition.against:
        found.extend(name_items(name))
    return found


def state_items(state):
    """Return the list of the items of a state."""
    status, version, done = state
    return [0] if state == ABSENT else [STATUSES.index(status), version, done]


def encode_system(system):
    """Return the code of a system."""
    found = [FIRST_ITEM, len(system.store)]
    for key in edition_keys(system.store):
        found.extend(edition_items(system.store[key]))
    for state in system.states.values():
        found.extend(state_items(state))
    return [*found, checksum_of(found)]


class Reader:
    """Takes the items of a code one after the other."""

    def __init__(self, listed):
        self.listed = listed
        self.taken = 0

    def take(self, least, most):
        """Return the next item, a number of a range."""
        if self.taken == len(self.listed) or not is_number(self.listed[self.taken], least, most):
            raise DecodeError(self.taken)
        self.taken += 1
        return self.listed[self.taken - 1]

    def take_name(self):
        """Return the name that is told by the next items."""
        many = self.take(1, LONGEST_WORD)
        return "".join([LETTERS[self.take(1, len(LETTERS)) - 1] for at in range(many)])

    def take_version(self):
        """Return the version that is the next item."""
        return self.take(LEAST_VERSION, MOST_VERSION)

    def take_names(self):
        """Return the tuple of the names that are told by the next items, and their number before them."""
        many = self.take(0, MOST_NEEDS)
        return tuple([self.take_name() for at in range(many)])

    def take_needs(self):
        """Return the tuple of the needs that are told by the next items, and their number before them."""
        many = self.take(0, MOST_NEEDS)
        return tuple([(self.take_name(), self.take_version()) for at in range(many)])

    def take_scripts(self):
        """Return the tuple of the scripts that are told by the next item."""
        total = self.take(0, ALL_SCRIPTS)
        return tuple([script for at, script in enumerate(SCRIPTS) if (total >> at) & 1 == 1])

    def take_parts(self, before):
        """Return the tuple of the parts of an edition, the key of which is greater than the one before."""
        name = self.take_name()
        version = self.take_version()
        if (name, version) <= before:
            raise DecodeError(self.taken - 1)
        return (name, version, self.take_scripts(), self.take_needs(), self.take_needs(), self.take_names())

    def take_state(self):
        """Return the state that is told by the next items."""
        status = STATUSES[self.take(0, len(STATUSES) - 1)]
        return ABSENT if status == "absent" else (status, self.take_version(), self.take(0, MOST_VERSION))

    def finish(self):
        """Take the checksum, behind which there is no item."""
        checksum = checksum_of(self.listed[:self.taken])
        self.take(checksum, checksum)
        if self.taken < len(self.listed):
            raise DecodeError(self.taken)


def decode_system(values):
    """Return the system of a code."""
    reader = Reader(values)
    reader.take(FIRST_ITEM, FIRST_ITEM)
    parts = []
    before = ("", 0)
    many = reader.take(1, MOST_EDITIONS)
    for at in range(many):
        parts.append(reader.take_parts(before))
        before = parts[-1][:2]
    names = sorted({part[0] for part in parts})
    states = {name: reader.take_state() for name in names}
    reader.finish()
    return built_system(parts, states)
