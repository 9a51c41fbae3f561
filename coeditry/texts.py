"""The ROW of a text."""

from coeditry.opened import ground_of_text
from coeditry.places import place_at, places_in, row_from


def row_of(book, *, doc):
    """The NAMES of the ROW of the text; or NoKey(doc)."""
    return tuple(row_from(ground_of_text(book, doc)))


def sign_of(book, name, *, doc):
    """The sign of a NAME, any thing, in the text; or NoKey."""
    return place_at(places_in(book, doc), name).sign


def hung_on(book, name, *, doc):
    """The NAME that the one of a NAME, any thing, HANGS ON, None for the front; or NoKey."""
    return place_at(places_in(book, doc), name).hung
