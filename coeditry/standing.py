"""Which DEEDS STAND, and why others don't; the LEVELS of HANDS."""

from coeditry.books import deed_at, deeds_of, found_at
from coeditry.deeds import doc_of, is_ahead
from coeditry.errors import NoKey
from coeditry.ground import ground_of, reasons_of


def reason_of(book, key):
    """The REASON of the DEED of the KEY in the BOOK; or NoKey."""
    deed = deed_at(book, key)
    return reasons_of(deeds_of(book, doc_of(deed)))[key]


def reasons(book):
    """All REASONS of the BOOK: a tuple of pairs (KEY, REASON), rising by KEY."""
    told = {}
    docs = {doc_of(deed): True for deed in book}
    for doc in docs:
        for key, reason in reasons_of(deeds_of(book, doc)).items():
            told[key] = reason
    return tuple([(key, told[key]) for key in sorted(told)])


def standing(book, *, doc):
    """The DEEDS of a document, any thing, that STAND, in ORDER."""
    return tuple(ground_of(deeds_of(book, doc)).stood())


def working(book, *, doc):
    """The DEEDS of a document, any thing, that WORK, in ORDER."""
    return tuple(ground_of(deeds_of(book, doc)).working())


def level_of(book, *, doc, hand, ahead=None):
    """The LEVEL of the HAND behind all DEEDS of the document, or just ahead of the DEED of a KEY; or NoKey."""
    deeds = deeds_of(book, doc)
    if ahead is not None:
        deed = found_at(deeds, ahead)
        if deed is None:
            raise NoKey(ahead)
        deeds = [one for one in deeds if is_ahead(one, deed)]
    return ground_of(deeds).right(hand)[1]
