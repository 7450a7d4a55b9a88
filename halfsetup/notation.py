"""Notation: the texts of systems."""

from halfsetup.building import built_system
from halfsetup.checks import is_numeral, is_word
from halfsetup.editions import SCRIPTS
from halfsetup.errors import InvalidText
from halfsetup.stores import edition_keys
from halfsetup.systems import STATUSES

# From the first word of a row, or the empty text before all rows, to those with which the next row can begin.
FOLLOWERS = {
    "": ("edition",),
    "edition": ("scripts", "needs", "first", "against", "edition", "state"),
    "scripts": ("needs", "first", "against", "edition", "state"),
    "needs": ("first", "against", "edition", "state"),
    "first": ("against", "edition", "state"),
    "against": ("edition", "state"),
    "state": ("state",),
}


def needs_rows(word, needs):
    """Return the list of the row of needs, or of no row."""
    told = [f"{name} {least}" for name, least in needs]
    return [" ".join([word, *told])] if told else []


def edition_rows(edition):
    """Return the list of the rows of an edition."""
    rows = [f"edition {edition.name} {edition.version}"]
    if edition.scripts != SCRIPTS:
        rows.append(" ".join(["scripts", *edition.scripts]))
    rows.extend(needs_rows("needs", edition.needs))
    rows.extend(needs_rows("first", edition.first))
    if edition.against:
        rows.append(" ".join(["against", *edition.against]))
    return rows


def format_system(system):
    """Return the text of a system."""
    rows = []
    for key in edition_keys(system.store):
        rows.extend(edition_rows(system.store[key]))
    for name, (status, version, done) in system.states.items():
        if status != "absent":
            rows.append(f"state {name} {status} {version} {done}")
    return "\n".join(rows)


class Row:
    """The words of a row, taken from left to right."""

    def __init__(self, place, text):
        self.place = place
        self.words = text.split(" ")
        self.taken = 0

    def is_ended(self):
        """Tell whether all words were taken."""
        return self.taken == len(self.words)

    def take(self):
        """Return the next word."""
        if self.is_ended():
            raise InvalidText(self.place, self.taken)
        self.taken += 1
        return self.words[self.taken - 1]

    def approve(self, right):
        """Raise InvalidText for the word that was taken last, unless it is right."""
        if not right:
            raise InvalidText(self.place, self.taken - 1)

    def finish(self):
        """Raise InvalidText if a word is left."""
        if not self.is_ended():
            raise InvalidText(self.place, self.taken)


def take_name(row, before):
    """Return the next word, a name that is greater than the one before."""
    name = row.take()
    row.approve(is_word(name) and name > before)
    return name


def take_number(row):
    """Return the number that is the next word."""
    word = row.take()
    row.approve(is_numeral(word))
    return int(word)


def take_scripts(row):
    """Return the tuple of the scripts in the rest of a row."""
    scripts = []
    before = ""
    while not row.is_ended():
        script = row.take()
        row.approve(script in SCRIPTS and script > before)
        scripts.append(script)
        before = script
    return tuple(scripts)


def take_needs(row):
    """Return the tuple of the needs, one at least, in the rest of a row."""
    needs = []
    before = ""
    while not needs or not row.is_ended():
        before = take_name(row, before)
        needs.append((before, take_number(row)))
    return tuple(needs)


def take_names(row):
    """Return the tuple of the names, one at least, in the rest of a row."""
    names = [take_name(row, "")]
    while not row.is_ended():
        names.append(take_name(row, names[-1]))
    return tuple(names)


def take_key(row, before):
    """Return the name and the version of an edition, greater than those of the one before."""
    name = row.take()
    row.approve(is_word(name) and name >= before[0])
    version = take_number(row)
    row.approve((name, version) > before)
    return (name, version)


def take_state(row):
    """Return the state that is told by the next words."""
    status = row.take()
    row.approve(status in STATUSES and status != "absent")
    version = take_number(row)
    return (status, version, take_number(row))


class Draft:
    """What the rows of a text told so far."""

    def __init__(self):
        self.last_word = ""
        self.last_key = ("", 0)
        self.last_name = ""
        # For each edition the dict of its parts, in their order.
        self.part_dicts = []
        self.told_states = {}

    def add_row(self, row):
        """Add what a row tells."""
        word = row.take()
        row.approve(word in FOLLOWERS[self.last_word])
        self.last_word = word
        if word == "edition":
            self.last_key = take_key(row, self.last_key)
            name, version = self.last_key
            self.part_dicts.append(
                {"name": name, "version": version, "scripts": SCRIPTS, "needs": (), "first": (), "against": ()})
        elif word == "state":
            self.last_name = take_name(row, self.last_name)
            self.told_states[self.last_name] = take_state(row)
        else:
            parts = self.part_dicts[-1]
            parts[word] = part_in(row, word)
        row.finish()


def part_in(row, word):
    """Return the part of an edition that is told by a row behind its first word."""
    if word == "scripts":
        return take_scripts(row)
    return take_names(row) if word == "against" else take_needs(row)


def parse_system(text):
    """Return the system of a text."""
    draft = Draft()
    for place, line in enumerate(text.split("\n")):
        draft.add_row(Row(place, line))
    return built_system([tuple(parts.values()) for parts in draft.part_dicts], draft.told_states)
