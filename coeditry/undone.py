"""Which DEEDS are UNDONE."""

from coeditry.books import deed_at, deeds_of
from coeditry.deeds import doc_of
from coeditry.ground import ground_of


def turn_of(book, key):
    """The TURN of the DEED of the KEY in the BOOK: a DEED, or None; or NoKey."""
    return _ground_at(book, key).turn(key)


def works(book, key):
    """Whether the DEED of the KEY in the BOOK WORKS; or NoKey."""
    return _ground_at(book, key).works(key)


def _ground_at(book, key):
    """What STANDS in the document of the DEED of a KEY, any thing; or NoKey."""
    return ground_of(deeds_of(book, doc_of(deed_at(book, key))))
