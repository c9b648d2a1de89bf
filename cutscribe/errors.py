"""The errors of the package. Each one holds the very values that it was constructed from."""


class CutError(ValueError):
    """The base class of all errors of the package."""


class InvalidText(CutError):
    """A text has a character that is not in the alphabet."""

    def __init__(self, position):
        self.position = position


class InvalidLexer(CutError):
    """A lexer cannot be built from what was passed."""

    def __init__(self, reason, mode, rule):
        self.reason = reason
        self.mode = mode
        self.rule = rule


class TooLarge(CutError):
    """An automaton or a search has more parts than allowed."""

    def __init__(self, what):
        self.what = what


class UnknownMode(CutError):
    """A lexer has no mode of this name."""

    def __init__(self, name):
        self.name = name


class UnknownRule(CutError):
    """A lexer has no such rule of this name."""

    def __init__(self, name):
        self.name = name


class Finished(CutError):
    """A stream was used behind its end."""


class InvalidRange(CutError):
    """A position lies outside of what is there."""

    def __init__(self, position):
        self.position = position


class TooLong(CutError):
    """A document's new text would be too long."""

    def __init__(self, length):
        self.length = length


class NotFlat(CutError):
    """A lexer has an enter or a leave where neither is allowed."""


class AlphabetMismatch(CutError):
    """Two lexers have different alphabets."""


class InvalidWord(CutError):
    """A word is empty or has a character that is not in the alphabet."""

    def __init__(self, index):
        self.index = index


class InvalidNotation(CutError):
    """A text is not the notation of what was asked for."""

    def __init__(self, index):
        self.index = index


class InvalidName(CutError):
    """A value is not a name."""

    def __init__(self, name):
        self.name = name


class Incompatible(CutError):
    """A document's text is not over the new alphabet of its lexer."""

    def __init__(self, document):
        self.document = document


class UnknownName(CutError):
    """Nothing has this name."""

    def __init__(self, name):
        self.name = name


class InUse(CutError):
    """A document still uses the lexer."""

    def __init__(self, document):
        self.document = document


class NameInUse(CutError):
    """A document has this name already."""

    def __init__(self, document):
        self.document = document


class NothingToUndo(CutError):
    """There is no change to take back."""


class NothingToRedo(CutError):
    """There is no change to perform again."""
