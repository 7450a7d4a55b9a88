"""All errors that the package raises."""


class SetupError(ValueError):
    """The base class of all errors of the package."""


class InvalidEdition(SetupError):
    """A parameter of an edition is not as it must be."""

    def __init__(self, part):
        super().__init__(f"this cannot be the {part} of an edition")
        self.part = part


class InvalidStore(SetupError):
    """An edition cannot stand in a store, or there is none."""

    def __init__(self, index):
        super().__init__(f"no store can be made of these editions, because of index {index}")
        self.index = index


class UnknownEdition(SetupError):
    """The store has no such edition."""


class UnknownName(SetupError):
    """The store has no such package."""


class InvalidSystem(SetupError):
    """A package is not of the store, or its state cannot be."""

    def __init__(self, package):
        super().__init__(f"no such state of the package {package!r} can be")
        self.package = package


class Refused(SetupError):
    """A deed cannot begin."""

    def __init__(self, why):
        super().__init__(f"the deed cannot begin: {why}")
        self.why = why


class InvalidNumber(SetupError):
    """A number is out of its range."""


class UnlikeStores(SetupError):
    """Two systems have different stores."""


class TooMany(SetupError):
    """More systems can be come to than are looked at."""


class InvalidLayout(SetupError):
    """The files of an edition, or what it takes over, are not as they must be."""

    def __init__(self, part, key):
        super().__init__(f"no such {part} of the edition {key} can be")
        self.part = part
        self.key = key


class InvalidTree(SetupError):
    """Two packages would have one path."""

    def __init__(self, path):
        super().__init__(f"two packages would have the path {path!r}")
        self.path = path


class InvalidDiversions(SetupError):
    """A path cannot be diverted so."""

    def __init__(self, path):
        super().__init__(f"the path {path!r} cannot be diverted so")
        self.path = path


class InvalidAnswer(SetupError):
    """An answer is neither to keep nor to take."""


class UnknownScript(SetupError):
    """No edition of the store has a script."""

    def __init__(self, index):
        super().__init__(f"no edition has the script at index {index}")
        self.index = index


class UnknownScripts(SetupError):
    """A set has a script that no edition of the store has."""

    def __init__(self, index):
        super().__init__(f"no edition has one of the scripts of the set at index {index}")
        self.index = index


class NoWay(SetupError):
    """No deeds mend a system."""


class InvalidName(SetupError):
    """A name to keep a system under is no word."""


class UnknownKept(SetupError):
    """No system is kept under a name."""


class InvalidOperation(SetupError):
    """An operation is none that a desk knows."""

    def __init__(self, index):
        super().__init__(f"there is no such operation as that at index {index}")
        self.index = index


class NoCall(SetupError):
    """A deed makes no other call."""


class InvalidText(SetupError):
    """A word of the text of a system is wrong, superfluous or missing."""

    def __init__(self, row, word):
        super().__init__(f"row {row} of the text is wrong at word {word}")
        self.row = row
        self.word = word


class DecodeError(SetupError):
    """An item of the code of a system is wrong or missing."""

    def __init__(self, offset):
        super().__init__(f"the code is wrong at offset {offset}")
        self.offset = offset


class ScriptError(SetupError):
    """A row of a script cannot stand there."""

    def __init__(self, row):
        super().__init__(f"row {row} of the script cannot stand there")
        self.row = row


class UnknownPackage(SetupError):
    """A row of a script asks for a package that the store does not have."""

    def __init__(self, row):
        super().__init__(f"row {row} of the script asks for an unknown package")
        self.row = row


class TooLong(SetupError):
    """A script takes too many steps."""
