"""HOLD PAPERS: which things of a COMMENT are there, and by what the others aren't."""

from coeditry.comments import comment_at
from coeditry.deadby import dead_by
from coeditry.deeds import doc_of
from coeditry.naming import things_of


def hold_paper(book, key):
    """A HOLD PAPER of the COMMENT of a KEY, any thing; or NoKey."""
    deed = comment_at(book, key)
    return tuple([(thing, _one_of(dead_by(book, thing, doc=doc_of(deed)))) for thing in things_of(deed)])


def _one_of(keys):
    """One of the KEYS, None of none."""
    if len(keys) == 0:
        return None
    return keys[0]
