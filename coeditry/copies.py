"""COPIES: each of a HAND, apart from the others."""

from coeditry.books import book_from, deed_at, is_own, knowing_fault
from coeditry.deeds import key_of
from coeditry.errors import NoDeed
from coeditry.kinds import is_key
from coeditry.letters import first_due, is_letter, lacking
from coeditry.making import made
from coeditry.versions import either, version_of
from coeditry.whats import is_deed, is_what


class Copy:
    """What one HAND KNOWS, what it lets WAIT, and what it HEARD of others."""

    def __init__(self, hand):
        self._hand = hand
        self._known = {}
        self._waits = {}
        self._heard = {}

    def take(self, deed):
        """Takes a DEED, any thing: the KEYS of those that came to be KNOWN, or NoDeed."""
        fault = self._fault(deed)
        if fault is not None:
            raise NoDeed(fault)
        key = key_of(deed)
        if key in self._known or key in self._waits:
            return ()
        self._waits[key] = deed
        return self._settle()

    def take_all(self, deeds):
        """Takes several, one by one; where one is refused, those ahead of it stay."""
        told = []
        for deed in deeds:
            told.extend(self.take(deed))
        return tuple(told)

    def make(self, what):
        """The DEED that its HAND makes of a WHAT, any thing, KNOWN at once; or NoDeed."""
        if not is_what(what):
            raise NoDeed("shape")
        if self._hand in [hand for hand, _ in self._waits]:
            raise NoDeed("waits")
        deed = made(self.book(), what, hand=self._hand)
        self._known[key_of(deed)] = deed
        self._settle()
        return deed

    def whose(self):
        """Its HAND."""
        return self._hand

    def book(self):
        """The BOOK that it KNOWS."""
        return book_from(self._known)

    def all_keys(self):
        """The KEYS that it KNOWS, rising."""
        return tuple(sorted(self._known))

    def version(self):
        """The VERSION of its BOOK."""
        return version_of(self.book())

    def waiting(self):
        """The WAITING DEEDS, as their KEYS rise."""
        return book_from(self._waits)

    def has(self, key):
        """Whether any thing is a KEY that it KNOWS."""
        return is_key(key) and key in self._known

    def deed(self, key):
        """The DEED of a KEY, any thing, that it KNOWS; or NoKey."""
        return deed_at(self.book(), key)

    def write(self, *, to, most=12):
        """A LETTER to a HAND: the first most DEEDS that it lacks by what is HEARD of it."""
        deeds = lacking(self.book(), self.heard(of=to))
        return (self._hand, self.version(), deeds[:most])

    def read(self, letter):
        """Reads a LETTER, any thing: the KEYS of those that came to be KNOWN, or NoDeed."""
        if not is_letter(letter):
            raise NoDeed("shape")
        hand, version, deeds = letter
        # What is HEARD is joined first: it stays, even where a DEED is refused.
        self._heard[hand] = either(version, self.heard(of=hand))
        return self.take_all(deeds)

    def heard(self, *, of):
        """The VERSION HEARD of a HAND, () of none."""
        return self._heard.get(of, ())

    def twin(self):
        """Another COPY, that KNOWS, lets WAIT and HEARD the same, and goes on apart."""
        twin = Copy(self._hand)
        twin._known = {key: self._known[key] for key in self._known}
        twin._waits = {key: self._waits[key] for key in self._waits}
        twin._heard = {hand: self._heard[hand] for hand in self._heard}
        return twin

    def __len__(self):
        return len(self._known)

    def __eq__(self, other):
        return isinstance(other, Copy) and self._known == other._known and self._waits == other._waits

    def _fault(self, deed):
        """Why a DEED, any thing, can't be taken: a word, or None."""
        if not is_deed(deed):
            return "shape"
        if not is_own(deed):
            return "own"
        key = key_of(deed)
        if self._known.get(key, deed) != deed or self._waits.get(key, deed) != deed:
            return "other"
        return None

    def _settle(self):
        """Lets all that are DUE come, each KNOWN, or gone where it can't stand: the KEYS of the KNOWN ones."""
        told = []
        deed = first_due(self.version(), {}, self.waiting())
        while deed is not None:
            key = key_of(deed)
            del self._waits[key]
            if knowing_fault(self._known, deed) is None:
                self._known[key] = deed
                told.append(key)
            deed = first_due(self.version(), {}, self.waiting())
        return tuple(told)
