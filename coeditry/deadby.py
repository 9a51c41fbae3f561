"""By which DEEDS signs, rows and nodes are not there."""

from coeditry.deeds import key_of, what_of, word_of
from coeditry.errors import NoKey
from coeditry.growing import tree_of
from coeditry.kinds import is_key
from coeditry.living import kept_dead
from coeditry.opened import ground_in


def dead_by(book, thing, *, doc):
    """The KEYS, rising, by which a NAME, a row, a node, any thing, of the document is DEAD; or NoKey."""
    ground = ground_in(book, doc)
    if ground.doc_sort() == "text":
        return kept_dead(book, thing, doc=doc)
    deed = ground.deed(thing)
    if deed is None or word_of(deed) not in ("row", "node"):
        raise NoKey(thing)
    if word_of(deed) == "row":
        return _row_dead_by(ground, thing)
    return _node_dead_by(ground, thing)


def is_dead_by(thing, keys):
    """Whether any thing is one of the KEYS."""
    # Only a KEY is compared, for ("ann", True) == ("ann", 1).
    return is_key(thing) and thing in keys


def _row_dead_by(ground, row):
    keys = [key_of(deed) for deed in ground.working() if word_of(deed) == "drop" and what_of(deed)[2] == row]
    if not ground.works(row):
        keys.append(row)
    return tuple(sorted(keys))


def _node_dead_by(ground, node):
    tree = tree_of(ground)
    keys = []
    one = node
    while one is not None:
        if not ground.works(one):
            keys.append(one)
        one = tree.parent(one)
    return tuple(sorted(keys))
