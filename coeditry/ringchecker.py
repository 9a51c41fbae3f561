"""The checker of RING PAPERS."""

from coeditry.deeds import what_of
from coeditry.errors import NoPaper
from coeditry.kinds import is_key
from coeditry.ringing import move_at


def lets_ring(book, key, thing, *, doc):
    """How many nodes the thing has, where it is a RING PAPER of the KEY in the tree; else NoKey, then NoPaper."""
    deed, tree = move_at(book, doc, key)
    if not _are_keys(thing):
        raise NoPaper("shape", -1)
    _, _, node, parent = what_of(deed)
    if thing[0] != parent:
        raise NoPaper("first", -1)
    for j in range(1, len(thing)):
        if tree.parent(thing[j - 1]) != thing[j]:
            raise NoPaper("beneath", j)
    if thing[-1] != node:
        raise NoPaper("last", -1)
    return len(thing)


def _are_keys(thing):
    """Whether a thing is a tuple of one KEY or more."""
    return isinstance(thing, tuple) and len(thing) > 0 and all([is_key(one) for one in thing])
