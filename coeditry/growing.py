"""A tree, made by its "node" and "move" DEEDS one by one."""

from coeditry.deeds import is_ahead, key_of, place_of, what_of, word_of


class Tree:
    """What each node is BENEATH, by the DEEDS done so far, in ORDER."""

    def __init__(self):
        self._put = {}
        self._done = []

    def do(self, deed):
        """Does the next DEED in ORDER: puts its node BENEATH its parent, unless this is the node, or lies below it."""
        node, parent = _aim_of(deed)
        held = self._put.get(node)
        # Nothing lies below the node of a "node" yet, so only a "move" may be idle.
        idle = self._is_at_or_below(parent, node)
        self._done.append((deed, held, idle))
        if not idle:
            self._put[node] = (parent, deed)

    def do_late(self, deed):
        """Does a DEED at its place in ORDER: takes back those behind it, and does them anew."""
        behind = []
        while len(self._done) > 0 and is_ahead(deed, self._done[-1][0]):
            behind.append(self._take_back())
        self.do(deed)
        for one in reversed(behind):
            self.do(one)

    def parent(self, node):
        """What the node is BENEATH, None where nothing put it, too."""
        return self._put.get(node, (None, None))[0]

    def idle(self):
        """The DEEDS that did nothing."""
        return [deed for deed, _, idle in self._done if idle]

    def below(self):
        """The dict of lists of the nodes BENEATH each, in ORDER of the DEED that put them there last."""
        below = {}
        for node in sorted(self._put, key=self._place_of):
            below.setdefault(self.parent(node), []).append(node)
        return below

    def _take_back(self):
        """Takes the DEED done last back, and tells it."""
        deed, held, idle = self._done.pop()
        node = _aim_of(deed)[0]
        if held is not None:
            self._put[node] = held
        elif not idle:
            del self._put[node]
        return deed

    def _is_at_or_below(self, one, node):
        """Whether the one is the node, or lies, BENEATH by BENEATH, below it."""
        while one is not None and one != node:
            one = self.parent(one)
        return one is not None

    def _place_of(self, node):
        return place_of(self._put[node][1])


def growing_of(ground):
    """The WORKING "node" and "move" DEEDS, in ORDER."""
    return [deed for deed in ground.working() if word_of(deed) in ("node", "move")]


def tree_of(ground):
    """The Tree behind all these DEEDS."""
    tree = Tree()
    for deed in growing_of(ground):
        tree.do(deed)
    return tree


def tree_ahead(ground, deed):
    """The Tree behind those of these DEEDS that are ahead of the DEED."""
    tree = Tree()
    for one in growing_of(ground):
        if is_ahead(one, deed):
            tree.do(one)
    return tree


def labels_of(ground):
    """The dict of the LABELS of the nodes whose "node" WORKS."""
    return {key_of(deed): what_of(deed)[3] for deed in ground.working() if word_of(deed) == "node"}


def branches_of(tree, labels):
    """The BRANCHES of the Tree, where these are the LABELS."""
    below = tree.below()
    told = []
    due = below.get(None, [])
    while len(due) > 0:
        node = due[0]
        due = due[1:]
        # What is below a node without a LABEL is not THERE either.
        if node in labels:
            told.append((node, tree.parent(node), labels[node]))
            due = below.get(node, []) + due
    return tuple(told)


def _aim_of(deed):
    """The node that the DEED puts, and the parent BENEATH which it is put."""
    what = what_of(deed)
    if what[0] == "node":
        return (key_of(deed), what[2])
    return (what[2], what[3])
