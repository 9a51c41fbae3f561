"""Which documents a HAND SEES."""

from coeditry.books import docs_of
from coeditry.kinds import reaches
from coeditry.standing import level_of


def seen_by(book, *, hand):
    """The KEYS, rising, of the documents that the HAND SEES."""
    return tuple([doc for doc in docs_of(book) if reaches(level_of(book, doc=doc, hand=hand), "see")])
