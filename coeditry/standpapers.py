"""STAND PAPERS: why a DEED STANDS, or doesn't, row by row."""

from coeditry.books import deed_at, deeds_of
from coeditry.deeds import doc_of, is_ahead, key_of
from coeditry.ground import Ground


def stand_paper(book, key):
    """A STAND PAPER of the DEED of the KEY in the BOOK; or NoKey."""
    deed = deed_at(book, key)
    ground = Ground()
    rows = []
    for one in deeds_of(book, doc_of(deed)):
        if not is_ahead(deed, one):
            rows.append(_row(ground, one))
    return tuple(rows)


def _row(ground, deed):
    """The row of the next DEED in ORDER."""
    by = ground.right(deed[0])[0]
    reason = ground.look(deed)
    if reason in (("doc",), ("key",)):
        by = None
    return (key_of(deed), reason, by)
