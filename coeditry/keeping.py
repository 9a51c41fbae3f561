"""A BOOK and its REASONS, kept as late DEEDS come."""

from coeditry.books import book_from, deed_at, deed_fault, deeds_of
from coeditry.deeds import doc_of, is_ahead, key_of
from coeditry.errors import NoDeed
from coeditry.ground import Ground
from coeditry.kinds import is_key
from coeditry.whats import is_deed


class StandingHouse:
    """A BOOK and its REASONS, of which only those are looked at anew that a DEED may turn."""

    def __init__(self):
        self._table = {}
        self._reasons = {}
        self._looked = 0

    def take(self, thing):
        """Takes a DEED, any thing: how many DEEDS were looked at anew; or NoDeed."""
        return self.take_all((thing,))

    def take_all(self, things):
        """Takes several, or none of them: how many DEEDS were looked at anew; or NoDeed."""
        # Copies are filled first, so that all is as it was where one is refused.
        table = {key: self._table[key] for key in self._table}
        reasons = {key: self._reasons[key] for key in self._reasons}
        looked = 0
        for thing in things:
            looked += _take_in(table, reasons, thing)
        self._table = table
        self._reasons = reasons
        self._looked += looked
        return looked

    def book(self):
        """Its BOOK."""
        return book_from(self._table)

    def reason(self, key):
        """The REASON of the DEED of a KEY, any thing; or NoKey."""
        return self._reasons[key_of(deed_at(self.book(), key))]

    def standing(self, *, doc):
        """The DEEDS of a document, any thing, that STAND, in ORDER."""
        return tuple(self._ground(doc).stood())

    def working(self, *, doc):
        """The DEEDS of a document, any thing, that WORK, in ORDER."""
        return tuple(self._ground(doc).working())

    def looked(self):
        """How many DEEDS were looked at anew in all."""
        return self._looked

    def has(self, thing):
        """Whether any thing is a KEY of a DEED of it."""
        return is_key(thing) and thing in self._table

    def __len__(self):
        return len(self._table)

    def __eq__(self, other):
        return isinstance(other, StandingHouse) and self._table == other._table

    def _ground(self, doc):
        """What STANDS of the document, by the REASONS that are kept."""
        ground = Ground()
        for deed in deeds_of(self.book(), doc):
            if self._reasons[key_of(deed)] is None:
                ground.add(deed)
        return ground


def _take_in(table, reasons, thing):
    """Puts a DEED, any thing, among those of the table: how many were looked at anew; or NoDeed."""
    fault = _fault(table, thing)
    if fault is not None:
        raise NoDeed(fault)
    table[key_of(thing)] = thing
    ground = Ground()
    looked = 0
    for deed in deeds_of(book_from(table), doc_of(thing)):
        key = key_of(deed)
        if not is_ahead(deed, thing):
            reasons[key] = ground.look(deed)
            looked += 1
        elif reasons[key] is None:
            ground.add(deed)
    return looked


def _fault(table, thing):
    """Why a thing can't be taken beside the DEEDS of the table: a word, or None."""
    if not is_deed(thing):
        return "deed"
    if key_of(thing) in table:
        return "there"
    # The others never knew it, so it alone is to be looked at.
    if deed_fault(table, thing) is not None:
        return "book"
    return None
