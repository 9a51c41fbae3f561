"""The BRANCHES of a tree, made as its DEEDS come in any turn."""

from coeditry.coming import as_they_came
from coeditry.growing import Tree, branches_of, growing_of, labels_of
from coeditry.opened import ground_of_tree


def branches_late(book, *, doc, came=()):
    """The BRANCHES of the tree, its WORKING "node" and "move" DEEDS coming as the KEYS of came tell; or NoKey."""
    ground = ground_of_tree(book, doc)
    tree = Tree()
    for deed in as_they_came(growing_of(ground), came):
        tree.do_late(deed)
    return branches_of(tree, labels_of(ground))
