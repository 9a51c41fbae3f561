"""MARK PAPERS: past which dead signs a MARK is LED."""

from coeditry.leading import names_from_mark
from coeditry.living import kept_dead_in


def mark_paper(book, hand, *, doc):
    """A MARK PAPER of the MARK of a HAND, any thing, at a NAME of the document; or NoKey."""
    names = names_from_mark(book, hand, doc)
    keeping = kept_dead_in(book, doc)
    told = []
    for name in names:
        if len(keeping[name]) == 0:
            break
        told.append((name, keeping[name][0]))
    return tuple(told)
