"""The exceptions of the package.

An exception shows what it was created with; it has no other message.
"""


class FlagclauseError(ValueError):
    """The base class of all exceptions of the package."""


class InvalidGrammar(FlagclauseError):
    """A part of a grammar is invalid; the index is that of its first invalid item."""

    def __init__(self, part, index):
        self.part = part
        self.index = index


class UnknownOption(FlagclauseError):
    """Something is not the name of an option of the grammar."""

    def __init__(self, name):
        self.name = name


class InvalidClause(FlagclauseError):
    """Something is not a clause about options of the grammar."""


class InvalidChain(FlagclauseError):
    """A chain has an item that is not a literal or that no step leads to."""

    def __init__(self, index):
        self.index = index


class Unsatisfiable(FlagclauseError):
    """A grammar accepts no set of options."""


class Conflict(FlagclauseError):
    """The given options cannot be completed, as a chain shows."""

    def __init__(self, chain):
        self.chain = chain


class DifferentOptions(FlagclauseError):
    """Two grammars do not have the same option names."""


class LineError(FlagclauseError):
    """A line has an invalid or unfinished character at an index."""

    def __init__(self, index):
        self.index = index


class InvalidToken(FlagclauseError):
    """An item of a list is not a token."""

    def __init__(self, index):
        self.index = index


class InvalidValue(FlagclauseError):
    """A kind has no values, or a text or a value is not valid for it."""


class ParseError(FlagclauseError):
    """A token cannot be read, for a reason that is named."""

    def __init__(self, index, reason):
        self.index = index
        self.reason = reason


class UnmetClause(FlagclauseError):
    """The given options do not satisfy a clause of the grammar."""

    def __init__(self, index):
        self.index = index


class InvalidArguments(FlagclauseError):
    """An option has an invalid value, or something is wrong as a whole (with the empty name)."""

    def __init__(self, name):
        self.name = name


class InvalidLayer(FlagclauseError):
    """An item of a list is not a layer of options and values."""

    def __init__(self, index):
        self.index = index


class InvalidOperation(FlagclauseError):
    """A token of a list cannot be typed."""

    def __init__(self, index):
        self.index = index


class InvalidName(FlagclauseError):
    """Something is not a name under which tokens can be stored."""


class UnknownCheckpoint(FlagclauseError):
    """No tokens are stored under a name."""


class NotationError(FlagclauseError):
    """A row of a text has a word that cannot stand there."""

    def __init__(self, row, column):
        self.row = row
        self.column = column


class InvalidCount(FlagclauseError):
    """Something is not a list of integers from 0 to 255."""


class DecodeError(FlagclauseError):
    """A byte at an offset is invalid or missing."""

    def __init__(self, offset):
        self.offset = offset
