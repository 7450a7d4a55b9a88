"""Scripts: rows that are executed on a system."""

from halfsetup.checks import ascends, is_numeral, is_word
from halfsetup.deeds import refusal
from halfsetup.errors import ScriptError, TooLong, UnknownPackage
from halfsetup.running import run
from halfsetup.systems import STATUSES

MOST_ROWS = 60
MOST_DEPTH = 4
MOST_STEPS = 300

# From the first words of rows to what their other words are, but for "fail", behind which any ascending numbers stand.
SHAPES = {
    "unpack": ("name", "number"),
    "setup": ("name",),
    "remove": ("name",),
    "purge": ("name",),
    "show": ("name",),
    "repeat": ("number",),
    "when": ("name", "status"),
    "end": (),
}
BLOCKS = ("repeat", "when")


def rows_of(text):
    """Return the list of the rows of a script, lists of words."""
    return [row.split(" ") for row in text.split("\n")] if text else []


def fits(word, kind):
    """Tell whether a word is of a kind."""
    if kind == "name":
        return is_word(word)
    return is_numeral(word) if kind == "number" else word in STATUSES


def is_row(words):
    """Tell whether words are those of a row."""
    word, *others = words
    if word == "fail":
        return all([is_numeral(other) for other in others]) and ascends([int(other) for other in others])
    if word not in SHAPES or len(others) != len(SHAPES[word]):
        return False
    return all([fits(other, kind) for other, kind in zip(others, SHAPES[word])])


def can_stand(place, words, depth):
    """Tell whether a row can stand at a place within so many blocks."""
    if place >= MOST_ROWS or not is_row(words):
        return False
    if words[0] == "end":
        return depth > 0
    return words[0] not in BLOCKS or depth < MOST_DEPTH


def block_ends(rows):
    """Return a dict from the places of the rows that begin blocks to those of their ends; raise ScriptError."""
    found = {}
    begun = []
    for place, words in enumerate(rows):
        if not can_stand(place, words, len(begun)):
            raise ScriptError(place)
        if words[0] in BLOCKS:
            begun.append(place)
        elif words[0] == "end":
            found[begun.pop()] = place
    if begun:
        raise ScriptError(len(rows))
    return found


class Execution:
    """The execution of a script on a system."""

    def __init__(self, system, rows):
        self.rows = rows
        self.blocks = block_ends(rows)
        self.held_system = system
        self.failing = ()
        self.output = []
        self.steps = 0

    def step_on(self):
        """Count a step before it is made."""
        if self.steps == MOST_STEPS:
            raise TooLong(f"the script takes more than {MOST_STEPS} steps")
        self.steps += 1

    def execute(self, begin, end):
        """Execute the rows from one place up to another one, where no block is cut."""
        place = begin
        while place < end:
            self.step_on()
            self.execute_row(place)
            place = self.blocks.get(place, place) + 1

    def execute_row(self, place):
        """Execute a row, with those of its block."""
        word, *others = self.rows[place]
        if word == "fail":
            self.failing = tuple([int(other) for other in others])
        elif word == "show":
            status, version, done = self.state_for(place)
            self.output.append(f"{status} {version} {done}")
        elif word == "repeat":
            for turn in range(int(others[0])):
                self.step_on()
                self.execute(place + 1, self.blocks[place])
        elif word == "when":
            if self.state_for(place)[0] == others[1]:
                self.execute(place + 1, self.blocks[place])
        elif word == "unpack":
            self.execute_deed((word, others[0], int(others[1])))
        else:
            self.execute_deed((word, others[0]))

    def state_for(self, place):
        """Return the state of the package that a row asks for."""
        name = self.rows[place][1]
        if name not in self.held_system.store.names:
            raise UnknownPackage(place)
        return self.held_system[name]

    def execute_deed(self, deed):
        """Execute a deed, or write why it cannot begin."""
        why = refusal(self.held_system, deed)
        if why is not None:
            self.output.append(" ".join(["refused", *why]))
            return
        self.held_system, calls = run(self.held_system, deed, self.failing)
        self.failing = ()


def run_script(system, text):
    """Execute a script on a system; return a tuple of the system behind it, and the list of all lines it writes."""
    execution = Execution(system, rows_of(text))
    execution.execute(0, len(execution.rows))
    return (execution.held_system, execution.output)
