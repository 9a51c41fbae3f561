"""Words found as DEEDS come."""

from coeditry.copies import Copy
from coeditry.marks import AGE
from coeditry.views import view
from coeditry.words import index, spots_of


class Finder:
    """The words of the VIEW of one HAND, whatever DEEDS come when."""

    def __init__(self, hand, *, age=AGE):
        self._copy = Copy(hand)
        self._age = age

    def take(self, deed):
        """Takes a DEED, any thing: the KEYS of those that came to be KNOWN, or NoDeed."""
        return self._copy.take(deed)

    def book(self):
        """Its BOOK."""
        return self._copy.book()

    def index(self):
        """Its INDEX."""
        return index(self._view())

    def spots(self, word):
        """The SPOTS of any text."""
        return spots_of(self._view(), word)

    def __len__(self):
        return len(self._copy)

    def _view(self):
        return view(self.book(), hand=self._copy.whose(), age=self._age)
