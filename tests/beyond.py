"""What a BOOK tells of suggestions, marks, views and undoing, once more, by the words of the document."""

import functools

from tests.naive import doc, key, keys_of, knew, make, version
from tests.plain import LEVELS, Plain, place, things, word


def is_name(thing):
    return isinstance(thing, tuple) and isinstance(thing[0], tuple)


class Beyond(Plain):
    # What is asked again and again is told once.

    @functools.lru_cache(None)
    def standing(self, of):
        return Plain.standing(self, of)

    @functools.lru_cache(None)
    def working(self, of, *words):
        return Plain.working(self, of, *words)

    @functools.lru_cache(None)
    def signs(self, of):
        return Plain.signs(self, of)

    @functools.lru_cache(None)
    def row(self, of):
        return Plain.row(self, of)

    @functools.lru_cache(None)
    def living(self, of):
        return Plain.living(self, of)

    def docs(self):
        return [key(deed) for deed in self.book if word(deed) == "open"]

    def sort(self, of):
        return self.table[of][4][1]

    # Trees, and what is not there

    def put_ahead(self, one):
        """What each node is BENEATH by what is done ahead of the move."""
        put = {}
        for other in self.working(doc(self.table[one]), "node", "move"):
            if place(other) < place(self.table[one]):
                node, parent = (key(other), other[4][2]) if word(other) == "node" else other[4][2:4]
                if node not in self.up({of: (up,) for of, up in put.items()}, parent):
                    put[node] = parent
        return put

    def ring(self, one):
        """The RING PAPER of a WORKING "move", None where it isn't IDLE."""
        put, (node, parent) = self.put_ahead(one), self.table[one][4][2:4]
        up = self.up({of: (above,) for of, above in put.items()}, parent)
        return tuple(up[:up.index(node) + 1]) if node in up else None

    def gone_by(self, of, thing):
        """By which KEYS a NAME, a row, a node is DEAD."""
        if is_name(thing):
            return self.dead_by(of, thing)
        if word(self.table[thing]) == "row":
            found = [key(one) for one in self.working(of, "drop") if one[4][2] == thing]
            return tuple(sorted(found + [thing] * (not self.works(thing))))
        put, _ = self.tree(of)
        return tuple(sorted(one for one in self.up(put, thing) if not self.works(one)))

    def is_said(self, one):
        return one in self.table and word(self.table[one]) == "say" and self.works(one)

    def said_on(self, one):
        return things(self.table[one])

    # Suggestions

    def suggested(self, of):
        return [one for one in self.standing(of) if word(one) == "suggest"]

    def fate(self, one):
        of, inner = doc(self.table[one]), self.table[one][4][2]
        named = [deed for deed in self.standing(of) if word(deed) in ("undo", "redo", "take", "refuse")
                 and deed[4][2] == one]
        if not self.works(one):
            return ("withdrawn", [key(deed) for deed in named if word(deed) == "undo"][-1])
        for told, ending in (("taken", "take"), ("refused", "refuse")):
            ends = [key(deed) for deed in named if word(deed) == ending]
            if ends:
                return (told, ends[0])
        lives = self.living(of)
        if inner[0] == "cut" and not set(inner[1]) & set(lives):
            return ("stale", None)
        if inner[0] == "put" and inner[1] is not None and inner[1] not in lives:
            return ("stale", None)
        return ("open", None)

    def suggestions(self, of):
        return tuple((key(one), one[4][2], self.fate(key(one))[0]) for one in self.suggested(of))

    def beside(self, of):
        """By putting the entry of each straight behind its sign's, so that later ones are ahead."""
        left = [one for one in self.suggested(of) if self.fate(key(one))[0] == "open"]
        told = []
        for name in self.living(of):
            cuts = [key(one) for one in left if one[4][2][0] == "cut" and name in one[4][2][1]]
            told.append(("sign", name, self.signs(of)[name][0], tuple(sorted(cuts))))
        for one in left:
            if one[4][2][0] == "put":
                _, after, text = one[4][2]
                at = 0 if after is None else [entry[1] for entry in told].index(after) + 1
                told.insert(at, ("put", key(one), text))
        return tuple(told)

    # Marks

    def last_mark(self, of, hand):
        found = [one for one in self.working(of, "mark") if one[0] == hand]
        return found[-1] if found else None

    def led(self, of, at):
        if at is None:
            return None
        if not is_name(at):
            return None if self.gone_by(of, at) else at
        return self.nearest(of, at)

    def nearest(self, of, name):
        row = self.row(of)
        lives = [one for one in row[:row.index(name) + 1] if one in self.living(of)]
        return lives[-1] if lives else None

    def mark(self, of, hand):
        last = self.last_mark(of, hand)
        return None if last is None else (last[4][2], self.led(of, last[4][2]))

    def marks(self, of, age=8):
        newest = max(one[2] for one in self.standing(of))
        told = []
        for hand in sorted({one[0] for one in self.book}):
            last = self.last_mark(of, hand)
            if last is not None and newest - last[2] <= age:
                told.append((hand, self.led(of, last[4][2])))
        return tuple(told)

    # Views

    def sees(self, hand):
        return tuple(of for of in self.docs() if LEVELS.index(self.level_behind(of, hand)) >= 1)

    def shown(self, of):
        """How each thing of the body is shown, as a list of pairs."""
        if self.sort(of) == "text":
            return [(name, self.looks(of, name)) for name in self.living(of)]
        if self.sort(of) == "tree":
            return [(node, (parent, label)) for node, parent, label in self.branches(of)]
        clashing = {row[:2]: tuple(self.table[one][4][4] for one in row[2]) for row in self.clashes(of)}
        return [(row, tuple((field, value, clashing.get((row, field), ())) for field, value in fields))
                for row, fields in self.rows(of)]

    def sight(self, of, hand, age=8):
        shown = self.shown(of)
        at = [thing for thing, _ in shown]
        where = {thing: at.index(thing) for thing in at}
        if self.sort(of) == "text":
            body = tuple((self.signs(of)[name][0], how) for name, how in shown)
        elif self.sort(of) == "rows":
            body = tuple(how for _, how in shown)
        else:
            body = tuple((None if parent is None else where[parent], label) for _, (parent, label) in shown)
        said = []
        for one, words, closed in self.comments(of):
            told, what, text = self.held(one)
            on = [] if what is None else list(what) if told == "was" or is_name(what[0]) else [what]
            if not closed:
                said.append((one[0], words, told, tuple(sorted(where[thing] for thing in on)), text))
        left = self.left_in_sight(of, where) if self.sort(of) == "text" else ()
        marked = tuple((one, where.get(led)) for one, led in self.marks(of, age))
        return (self.sort(of), self.level_behind(of, hand), body, tuple(said), left, marked)

    def left_in_sight(self, of, where):
        told = []
        for one, inner, fate in self.suggestions(of):
            if fate in ("open", "stale"):
                if inner[0] == "cut":
                    shown = ("cut", tuple(sorted(where[name] for name in inner[1] if name in where)))
                else:
                    near = None if inner[1] is None else self.nearest(of, inner[1])
                    shown = ("put", where.get(near), inner[2])
                told.append((one[0], shown, fate))
        return tuple(told)

    def view(self, hand, age=8):
        return tuple(self.sight(of, hand, age) for of in self.sees(hand))

    # Undoing

    def turnable(self, hand, by):
        """The KEYS of which an "undo", a "redo" by the HAND, behind all, would STAND and turn something."""
        told = []
        for one in sorted(self.table):
            deed = self.table[one]
            if deed[0] != hand or self.reason(one) is not None or self.works(one) != (by == "undo"):
                continue
            more = make(list(self.book), hand, (by, doc(deed), one))
            if Plain(self.book + (more,)).reason(key(more)) is None:
                told.append(one)
        return tuple(told)

    def turned(self, one, by):
        more = make(list(self.book), one[0], (by, doc(self.table[one]), one))
        return tuple(sorted(self.book + (more,), key=key))

    def effect(self, one):
        of = doc(self.table[one])
        shown, then = self.shown(of), Beyond(self.turned(one, "undo")).shown(of)
        return (tuple(sorted(pair for pair in shown if pair not in then)),
                tuple(sorted(pair for pair in then if pair not in shown)))


def anew(book, kept):
    """The DEEDS of a BOOK whose KEYS are kept, numbered anew, by sets of KEYS and by what things look like."""
    numbers = {}
    for hand, n in sorted(kept):
        numbers[(hand, n)] = (hand, len([one for one in numbers if one[0] == hand]))

    def turn(thing):
        if not isinstance(thing, tuple):
            return thing
        if len(thing) == 2 and isinstance(thing[0], str) and isinstance(thing[1], int):
            return numbers.get(thing, (thing[0], thing[1] + 10 ** 6))
        told = tuple(turn(one) for one in thing)
        if told and all(isinstance(one, tuple) and len(one) == 2 and isinstance(one[0], tuple) for one in told):
            return tuple(sorted(told))
        return told

    told = []
    for deed in book:
        if key(deed) in kept:
            known = version({numbers[one] for one in keys_of(deed[3]) & set(kept)})
            told.append(numbers[key(deed)] + (deed[2], known, turn(deed[4])))
    return tuple(sorted(told, key=key))


def parted_plainly(book, hand):
    plain = Beyond(book)
    return anew(book, [key(deed) for deed in book if doc(deed) in plain.sees(hand)])


def all_known(deed):
    return knew(deed) | {key(deed)}
