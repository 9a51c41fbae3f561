"""The documents of a sort, by their "open"."""

from coeditry.books import deeds_of, found_at
from coeditry.deeds import what_of, word_of
from coeditry.errors import NoKey
from coeditry.forms import SORTS
from coeditry.ground import ground_of


def ground_in(book, doc, *, sorts=SORTS):
    """What STANDS in a document, any thing, of one of these sorts; NoKey where there is none such."""
    deed = found_at(book, doc)
    if deed is None or word_of(deed) != "open" or what_of(deed)[1] not in sorts:
        raise NoKey(doc)
    return ground_of(deeds_of(book, doc))


def ground_of_text(book, doc):
    """What STANDS in a text; NoKey where there is none of this KEY, any thing."""
    return ground_in(book, doc, sorts=("text",))


def ground_of_rows(book, doc):
    """What STANDS in a document of rows; NoKey where there is none of this KEY, any thing."""
    return ground_in(book, doc, sorts=("rows",))


def ground_of_tree(book, doc):
    """What STANDS in a tree; NoKey where there is none of this KEY, any thing."""
    return ground_in(book, doc, sorts=("tree",))
