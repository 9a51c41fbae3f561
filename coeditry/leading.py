"""The NAMES that a MARK at a NAME may be LED to."""

from coeditry.errors import NoKey
from coeditry.kinds import is_name
from coeditry.marks import mark_of
from coeditry.texts import row_of


def names_from_mark(book, hand, doc):
    """The NAME of the MARK of a HAND, any thing, and those ahead of it in the ROW, the nearest first; or NoKey."""
    mark = mark_of(book, hand, doc=doc)
    if mark is None or not is_name(mark[0]):
        raise NoKey(hand)
    row = row_of(book, doc=doc)
    return row[row.index(mark[0])::-1]
