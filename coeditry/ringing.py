"""The moves of a tree, each by what was done ahead of it."""

from coeditry.deeds import word_of
from coeditry.errors import NoKey
from coeditry.growing import tree_ahead
from coeditry.opened import ground_of_tree


def move_at(book, doc, key):
    """The WORKING "move" of a KEY, any thing, in the tree, and the Tree ahead of it; NoKey(doc), then NoKey(key)."""
    ground = ground_of_tree(book, doc)
    deed = ground.deed(key)
    if deed is None or word_of(deed) != "move" or not ground.works(key):
        raise NoKey(key)
    return (deed, tree_ahead(ground, deed))
