"""The errors of the package; each keeps its arguments as attributes."""


class CallError(Exception):
    """What all errors of the package are."""


class BadScene(CallError):
    """A scene that can't be: the word tells which part of it."""

    def __init__(self, word):
        self.word = word


class BadName(CallError):
    """Something handed in that can't stand there: a name, a number, a deed, a place."""

    def __init__(self, name):
        self.name = name


class BadCut(CallError):
    """A fall that leaves more than was there, or no number of signs at all."""

    def __init__(self, place):
        self.place = place


class BadText(CallError):
    """A text that can't be read: the line, and the first word that can't stand there."""

    def __init__(self, line, word):
        self.line = line
        self.word = word
