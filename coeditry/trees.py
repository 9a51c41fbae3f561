"""The nodes of a tree."""

from coeditry.deeds import key_of, word_of
from coeditry.errors import NoKey
from coeditry.growing import branches_of, labels_of, tree_of
from coeditry.opened import ground_of_tree


def branches(book, *, doc):
    """The BRANCHES of the tree: a tuple of (node, parent, LABEL); or NoKey(doc)."""
    ground = ground_of_tree(book, doc)
    return branches_of(tree_of(ground), labels_of(ground))


def is_there(book, key, *, doc):
    """Whether the node of a KEY, any thing, is THERE in the tree; or NoKey."""
    ground = _ground_with(book, doc, key)
    tree = tree_of(ground)
    labels = labels_of(ground)
    node = key
    while node in labels:
        node = tree.parent(node)
    return node is None


def parent_of(book, key, *, doc):
    """What the node of a KEY, any thing, is BENEATH in the tree: a KEY or None; or NoKey."""
    return tree_of(_ground_with(book, doc, key)).parent(key)


def idle_moves(book, *, doc):
    """The KEYS, rising, of the WORKING "move" DEEDS of the tree that did nothing; or NoKey(doc)."""
    return tuple(sorted([key_of(deed) for deed in tree_of(ground_of_tree(book, doc)).idle()]))


def _ground_with(book, doc, key):
    """What STANDS in the tree; NoKey(doc), then NoKey(key) where no "node" of this KEY STANDS there."""
    ground = ground_of_tree(book, doc)
    deed = ground.deed(key)
    if deed is None or word_of(deed) != "node":
        raise NoKey(key)
    return ground
