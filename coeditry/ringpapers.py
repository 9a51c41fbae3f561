"""RING PAPERS: why a move did nothing."""

from coeditry.deeds import what_of
from coeditry.ringing import move_at


def ring_paper(book, key, *, doc):
    """The RING PAPER of the WORKING "move" of a KEY, any thing, in the tree; None where it isn't IDLE; or NoKey."""
    deed, tree = move_at(book, doc, key)
    _, _, node, one = what_of(deed)
    ring = []
    while one is not None:
        ring.append(one)
        if one == node:
            return tuple(ring)
        one = tree.parent(one)
    return None
