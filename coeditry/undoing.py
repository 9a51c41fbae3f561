"""What may be undone and redone, and what that does."""

from coeditry.bodies import shown_in
from coeditry.books import book_from, deed_at, deeds_of, docs_of, table_of
from coeditry.deeds import doc_of, key_of
from coeditry.errors import NoKey
from coeditry.ground import ground_of
from coeditry.making import made


def undoable(book, *, hand):
    """The KEYS, rising, of the DEEDS of the HAND that WORK, and that it may undo."""
    return _turnable(book, hand, "undo")


def redoable(book, *, hand):
    """The KEYS, rising, of the DEEDS of the HAND that are UNDONE, and that it may redo."""
    return _turnable(book, hand, "redo")


def undoing(book, key):
    """The BOOK with an "undo" of the DEED of a KEY, any thing, more; or NoKey."""
    return _turned(book, key, "undo")


def redoing(book, key):
    """The BOOK with a "redo" of the DEED of a KEY, any thing, more; or NoKey."""
    return _turned(book, key, "redo")


def effect_of(book, key):
    """What undoing the DEED of a KEY, any thing, takes and brings in the body: (gone, come); or NoKey."""
    after = undoing(book, key)
    doc = doc_of(deed_at(book, key))
    shown, then = shown_in(book, doc), shown_in(after, doc)
    return (_shown_alone(shown, then), _shown_alone(then, shown))


def _turnable(book, hand, word):
    """The KEYS, rising, of the DEEDS of the HAND that a DEED of this word, an "undo" or a "redo", by it would turn."""
    told = []
    for doc in docs_of(book):
        ground = ground_of(deeds_of(book, doc))
        for deed in ground.stood():
            key = key_of(deed)
            if deed[0] == hand and ground.works(key) == (word == "undo"):
                if ground.reason(made(book, (word, doc, key), hand=hand)) is None:
                    told.append(key)
    return tuple(sorted(told))


def _turned(book, key, word):
    """The BOOK with a DEED of this word, by its HAND, of the DEED of a KEY, any thing; or NoKey."""
    deed = deed_at(book, key)
    hand = deed[0]
    if key not in _turnable(book, hand, word):
        raise NoKey(key)
    more = made(book, (word, doc_of(deed), key), hand=hand)
    return book_from(table_of(book + (more,)))


def _shown_alone(shown, other):
    """The pairs, rising, of what is shown, that the other doesn't show so."""
    # How a thing is shown is never None, so a thing that the other doesn't show is unlike.
    return tuple([(thing, shown[thing]) for thing in sorted(shown) if other.get(thing) != shown[thing]])
