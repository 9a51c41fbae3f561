"""The DEED that a HAND makes who KNOWS a BOOK."""

from coeditry.books import next_count
from coeditry.deeds import doc_named
from coeditry.hands import many_of
from coeditry.versions import version_of


def made(book, what, *, hand):
    """The DEED that the HAND makes of the WHAT, who KNOWS just this BOOK."""
    knew = version_of(book)
    n = many_of(knew, hand)
    count = next_count(book, doc_named(what, (hand, n)))
    return (hand, n, count, knew, what)
