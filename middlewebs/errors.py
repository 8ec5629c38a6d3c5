"""The errors of the package: each one carries its arguments as attributes."""


class MiddleError(ValueError):
    """What every other error stands under; it is never raised itself."""


class InvalidNumber(MiddleError):
    """A value is not the vertex, the place or the number that was asked for."""

    def __init__(self, value):
        self.value = value


class InvalidGraph(MiddleError):
    """A size and edges make no graph."""

    def __init__(self, part, place):
        self.part = part
        self.place = place


class InvalidEdge(MiddleError):
    """A value is no pair of joined vertices."""

    def __init__(self, value):
        self.value = value


class InvalidSubset(MiddleError):
    """A value is not the kind of subset that was asked for."""

    def __init__(self, value):
        self.value = value


class InvalidWord(MiddleError):
    """A value is no word of the length that was asked for."""

    def __init__(self, value):
        self.value = value


class InvalidWords(MiddleError):
    """A length and words make no set of words."""

    def __init__(self, part, place):
        self.part = part
        self.place = place


class InvalidClause(MiddleError):
    """A value is no clause for words of so many letters."""

    def __init__(self, value):
        self.value = value


class InvalidClauses(MiddleError):
    """A number of letters and clauses do not fit together."""

    def __init__(self, part, place):
        self.part = part
        self.place = place


class InvalidEvents(MiddleError):
    """A number of events, causes and conflicts do not fit together."""

    def __init__(self, part, place):
        self.part = part
        self.place = place


class InvalidState(MiddleError):
    """A value is no state of the events."""

    def __init__(self, value):
        self.value = value


class InvalidGrowth(MiddleError):
    """A sequence of subsets is no growth."""

    def __init__(self, place):
        self.place = place


class InvalidFolding(MiddleError):
    """A length and images make no folding."""

    def __init__(self, part, place):
        self.part = part
        self.place = place


class InvalidWeights(MiddleError):
    """A value is no weights of the graph."""

    def __init__(self, value):
        self.value = value


class InvalidNames(MiddleError):
    """A value does not name each vertex once."""

    def __init__(self, value):
        self.value = value


class InvalidForm(MiddleError):
    """A value is none of the six forms, or no name of one."""

    def __init__(self, value):
        self.value = value


class InvalidText(MiddleError):
    """A text is not that of an object; it is wrong from the place at on."""

    def __init__(self, text, at):
        self.text = text
        self.at = at


class UnknownCommand(MiddleError):
    """A command begins with a word that no command has."""

    def __init__(self, word):
        self.word = word


class InvalidCommand(MiddleError):
    """A command's words are wrong from the place at on."""

    def __init__(self, command, at):
        self.command = command
        self.at = at


class NothingToUndo(MiddleError):
    """There is no deed to undo, or to do again."""

    def __init__(self, word):
        self.word = word


class Undefined(MiddleError):
    """There is no such thing as was asked for."""

    def __init__(self, what):
        self.what = what


class TooLarge(MiddleError):
    """There is more of something than this package works with."""

    def __init__(self, what):
        self.what = what
