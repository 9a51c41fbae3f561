"""What a BOOK tells, once more, by the words of the document, with no thought of the program's own ways."""

from tests.naive import doc, key, knew

LEVELS = ["none", "see", "tell", "suggest", "change", "own"]
SORTS = {"text": "put cut look suggest take refuse", "rows": "row set drop", "tree": "node move"}
UNDONE = "put cut look row set drop node move say close mark suggest".split()


def word(deed):
    return deed[4][0]


def place(deed):
    return (deed[2], deed[0])


def things(deed):
    """The THINGS that a DEED names."""
    what = deed[4]
    rest = {
        "put": what[2:3], "cut": what[2:3], "look": what[2:3], "set": what[2:3], "drop": what[2:3], "node": what[2:3],
        "move": what[2:4], "say": what[2:3], "close": what[2:3], "take": what[2:3], "refuse": what[2:3],
        "mark": what[2:3], "undo": what[2:3], "redo": what[2:3],
    }.get(what[0], ())
    if what[0] == "suggest":
        rest = what[2][1:2]
    told = []
    for thing in rest:
        if thing is None:
            continue
        if isinstance(thing[0], tuple) and isinstance(thing[0][0], tuple):
            told += list(thing)
        else:
            told.append(thing)
    return told


class Plain:
    """All that one BOOK tells."""

    def __init__(self, book):
        self.book = book
        self.table = {key(deed): deed for deed in book}
        self.told = {}

    # What stands

    def deeds(self, of):
        return sorted([deed for deed in self.book if doc(deed) == of], key=place)

    def ahead(self, deed):
        """The STANDING DEEDS of its document ahead of it."""
        return [one for one in self.deeds(doc(deed)) if place(one) < place(deed) and self.reason(key(one)) is None]

    def reason(self, of):
        if of not in self.told:
            self.told[of] = self.find_reason(self.table[of])
        return self.told[of]

    def find_reason(self, deed):
        if word(deed) == "open":
            return None
        ahead = self.ahead(deed)
        opens = [one for one in ahead if word(one) == "open"]
        if not opens:
            return ("doc",)
        bound = [sort for sort, words in SORTS.items() if word(deed) in words.split()]
        if bound and bound != [opens[0][4][1]]:
            return ("doc",)
        gone = [j for j, thing in enumerate(things(deed)) if not self.is_there(deed, thing, ahead)]
        need = word(deed)
        if need in ("undo", "redo"):
            if gone:
                return ("key",)
            need = word(self.table[deed[4][2]])
        level = self.level(deed[0], ahead)
        if LEVELS.index(level) < LEVELS.index(self.need(need)):
            return ("level", level)
        return ("there", gone[0]) if gone else None

    def need(self, of):
        return {"mark": "see", "say": "tell", "close": "tell", "suggest": "suggest", "give": "own"}.get(of, "change")

    def level(self, hand, ahead):
        level = "none"
        for one in ahead:
            if word(one) == "open" and one[0] == hand:
                level = "own"
            if word(one) == "give" and one[4][2] == hand:
                level = one[4][3]
        return level

    def level_behind(self, of, hand):
        return self.level(hand, self.standing(of))

    def is_there(self, deed, thing, ahead):
        of = thing[0] if isinstance(thing[0], tuple) else thing
        found = [one for one in ahead if key(one) == of]
        if not found:
            return False
        named = found[0]
        ends = [word(one) for one in ahead if word(one) in ("take", "refuse") and one[4][2] == of]
        if isinstance(thing[0], tuple):
            if word(named) == "suggest":
                return named[4][2][0] == "put" and "take" in ends and thing[1] < len(named[4][2][2])
            return word(named) == "put" and thing[1] < len(named[4][3])
        if word(deed) in ("undo", "redo"):
            return named[0] == deed[0] and word(named) in UNDONE and not ends
        if word(deed) in ("take", "refuse"):
            return word(named) == "suggest" and not ends
        fit = {"set": ["row"], "drop": ["row"], "node": ["node"], "move": ["node"], "close": ["say"]}
        return word(named) in fit.get(word(deed), ["row", "node"])

    def standing(self, of):
        return [deed for deed in self.deeds(of) if self.reason(key(deed)) is None]

    def turn(self, of):
        turns = [one for one in self.standing(doc(self.table[of])) if word(one) in ("undo", "redo") and one[4][2] == of]
        return turns[-1] if turns else None

    def works(self, of):
        if self.reason(of) is not None:
            return False
        turn = self.turn(of)
        return turn is None or word(turn) == "redo"

    def working(self, of, *words):
        return [one for one in self.standing(of) if self.works(key(one)) and (not words or word(one) in words)]

    # Texts

    def takes(self, of):
        """The STANDING "take" DEEDS, by the KEYS of their suggestions."""
        return {one[4][2]: one for one in self.standing(of) if word(one) == "take"}

    def placing(self, of):
        """Of each PLACING DEED, in ORDER: (it, the KEY in the NAMES, after, SIGNS)."""
        told = []
        for one in self.standing(of):
            if word(one) == "put":
                told.append((one, key(one), one[4][2], one[4][3]))
            if word(one) == "take":
                inner = self.table[one[4][2]][4][2]
                if inner[0] == "put":
                    told.append((one, one[4][2], inner[1], inner[2]))
        return told

    def signs(self, of):
        """By NAMES: (sign, what it HANGS ON, its PLACING DEED)."""
        told = {}
        for one, of_name, after, text in self.placing(of):
            for k, sign in enumerate(text):
                told[(of_name, k)] = (sign, after if k == 0 else (of_name, k - 1), one)
        return told

    def row(self, of):
        """The ROW, by what HANGS ON what: of several the one of the greater PLACING DEED ahead."""
        signs = self.signs(of)

        def behind(name):
            hanging = sorted([one for one in signs if signs[one][1] == name], key=lambda one: place(signs[one][2]))
            told = []
            for one in reversed(hanging):
                told += [one] + behind(one)
            return told

        return behind(None)

    def dead_by(self, of, name):
        told = set()
        if not self.works(name[0]):
            told.add(name[0])
        for one in self.working(of, "cut", "suggest"):
            if word(one) == "cut" and name in one[4][2]:
                told.add(key(one))
            if word(one) == "suggest" and one[4][2][0] == "cut" and name in one[4][2][1] and key(one) in self.takes(of):
                told.add(key(one))
        return tuple(sorted(told))

    def living(self, of):
        return [name for name in self.row(of) if not self.dead_by(of, name)]

    def text(self, of, names):
        return "".join(self.signs(of)[name][0] for name in names)

    def looks(self, of, name):
        last = {}
        for one in self.working(of, "look"):
            if name in one[4][2]:
                last[one[4][3]] = one[4][4]
        return tuple(sorted(look for look in last if last[look]))

    def wrote(self, of):
        signs = self.signs(of)
        return tuple((signs[name][0], name[0][0], signs[name][2][0] if word(signs[name][2]) == "take" else None)
                     for name in self.living(of))

    # Rows

    def rows(self, of):
        told = []
        for row in [key(one) for one in self.working(of, "row")]:
            if row in [one[4][2] for one in self.working(of, "drop")]:
                continue
            fields = {}
            for one in self.working(of, "set"):
                if one[4][2] == row:
                    fields[one[4][3]] = one[4][4]
            told.append((row, tuple(sorted(fields.items(), key=lambda pair: pair[0]))))
        return tuple(told)

    def last_ones(self, of, row, field):
        sets = [one for one in self.working(of, "set") if one[4][2:4] == (row, field)]
        known = set().union(*[knew(one) for one in sets])
        return tuple(sorted(key(one) for one in sets if key(one) not in known))

    def clashes(self, of):
        told = []
        for row, fields in self.rows(of):
            for field, _ in fields:
                keys = self.last_ones(of, row, field)
                if len({repr(self.table[one][4][4]) for one in keys}) > 1:
                    told.append((row, field, keys))
        return tuple(sorted(told))

    # Trees

    def tree(self, of):
        """What each node is BENEATH, by which DEED, and which moves did nothing."""
        put, idle = {}, []
        for one in self.working(of, "node", "move"):
            node, parent = (key(one), one[4][2]) if word(one) == "node" else one[4][2:4]
            if word(one) == "move" and node in self.up(put, parent):
                idle.append(key(one))
            else:
                put[node] = (parent, place(one))
        return put, tuple(sorted(idle))

    def up(self, put, node):
        """The node and all that it lies below."""
        told = []
        while node is not None:
            told.append(node)
            node = put.get(node, (None,))[0]
        return told

    def is_node_there(self, of, node):
        put, _ = self.tree(of)
        return all(self.works(one) for one in self.up(put, node))

    def branches(self, of):
        put, _ = self.tree(of)

        def below(parent):
            told = []
            for node in sorted([one for one in put if put[one][0] == parent], key=lambda one: put[one][1]):
                if self.works(node):
                    told += [(node, parent, self.table[node][4][3])] + below(node)
            return told

        return tuple(below(None))

    # Comments

    def comments(self, of):
        closed = [one[4][2] for one in self.working(of, "close")]
        return tuple((key(one), one[4][3], key(one) in closed) for one in self.working(of, "say"))

    def held(self, of):
        said = self.table[of]
        on = said[4][2]
        if isinstance(on[0], tuple):
            names = [name for name in self.row(doc(said)) if name in on]
            lives = [name for name in names if name in self.living(doc(said))]
            if lives:
                return ("holds", tuple(lives), self.text(doc(said), lives))
            return ("was", (), self.text(doc(said), names))
        if word(self.table[on]) == "node":
            text, there = self.table[on][4][3], self.is_node_there(doc(said), on)
        else:
            text, there = "", on in [row for row, _ in self.rows(doc(said))]
        return ("holds", on, text) if there else ("was", None, text)
