"""The refusals: errors that keep the very things they are made of."""


class CoeditError(ValueError):
    """The base of all refusals."""


class PaperError(CoeditError):
    """The family of what a checker, a book or a copy refuses."""


class HouseError(CoeditError):
    """The family of what there is none of."""


class TextError(CoeditError):
    """The family of what can't be read."""


class NoPaper(PaperError):
    """A paper that isn't one: why, and where."""

    def __init__(self, word, at):
        self.word = word
        self.at = at


class NoDeed(PaperError):
    """A deed, a book or a step that can't be: why."""

    def __init__(self, word):
        self.word = word


class NoKey(HouseError):
    """A thing asked for by a key of which there is none."""

    def __init__(self, key):
        self.key = key


class NoCopy(HouseError):
    """A hand that has no copy."""

    def __init__(self, hand):
        self.hand = hand


class NoBack(HouseError):
    """Steps that can't be taken back so many times."""

    def __init__(self, times):
        self.times = times


class NoText(TextError):
    """A text that can't be read: the line and the word at which it can't."""

    def __init__(self, line, word):
        self.line = line
        self.word = word


class NoLine(TextError):
    """A row of no form that is told."""

    def __init__(self, line):
        self.line = line
