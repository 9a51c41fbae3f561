"""BOOKS by chance, in which most DEEDS STAND."""

import random

from tests.naive import key, knew, make
from tests.plain import UNDONE, Plain, word

LEVELS = ["none", "see", "tell", "suggest", "change", "change", "change", "own", "own", "own"]
WORDS = {
    "text": "put put put put cut cut look look suggest suggest suggest take take take refuse say mark".split(),
    "rows": "row row row set set set set set set drop say mark".split(),
    "tree": "node node node node move move move move move say mark".split(),
}


class Chance:
    """WHATS by chance, of what a HAND knows of a document."""

    def __init__(self, chance, deeds, hand, of):
        self.chance = chance
        self.plain = Plain(deeds)
        # Mostly those that STAND, else any.
        self.deeds = self.plain.standing(of) if chance.random() < 0.93 else self.plain.deeds(of)
        self.hand = hand
        self.of = of

    def keys(self, *words):
        return [key(deed) for deed in self.deeds if word(deed) in words]

    def one(self, *words):
        return self.chance.choice(self.keys(*words) or [("ann", 0)])

    def any(self):
        return key(self.chance.choice(self.plain.book)) if self.plain.book else ("ann", 0)

    def is_ended(self, one):
        return one in [deed[4][2] for deed in self.deeds if word(deed) in ("take", "refuse")]

    def left(self):
        """A suggestion, mostly one that was neither taken nor refused."""
        left = [one for one in self.keys("suggest") if not self.is_ended(one)]
        return self.chance.choice(left or [self.one("suggest")])

    def mine(self):
        """A DEED of its HAND, mostly one that may be undone."""
        mine = [key(deed) for deed in self.deeds if deed[0] == self.hand and word(deed) in UNDONE]
        return self.chance.choice(mine or [("ann", 0)])

    def or_none(self, thing):
        return None if self.chance.random() < 0.25 else thing

    def parent(self):
        return self.or_none(self.one("node")) if self.keys("node") else None

    def name(self):
        """A NAME, mostly of a sign that is THERE."""
        taken = [deed[4][2] for deed in self.deeds if word(deed) == "take"]
        held = [deed for deed in self.deeds if word(deed) == "put"]
        held += [deed for deed in self.deeds if word(deed) == "suggest"
                 and (key(deed) in taken or self.chance.random() < 0.1)]
        if not held:
            return None
        deed = self.chance.choice(held)
        text = deed[4][3] if word(deed) == "put" else deed[4][2][-1]
        if self.chance.random() < 0.02:
            return (self.any(), 0)
        return (key(deed), self.chance.randrange(len(text) + (self.chance.random() < 0.05)))

    def names(self):
        names = {self.name() or (self.any(), 0) for _ in range(self.chance.choice([1, 1, 2, 3]))}
        return tuple(sorted(names))

    def signs(self):
        return "".join(self.chance.choice("abc d") for _ in range(self.chance.choice([1, 1, 2, 3])))

    def inner(self):
        return self.chance.choice([("put", self.or_none(self.name()), self.signs()), ("cut", self.names())])

    def what(self, sort):
        chance, of = self.chance, self.of
        turned = chance.random()
        if turned < 0.16:
            of_which = self.mine() if chance.random() < 0.9 else self.any()
            return (chance.choice(["undo", "undo", "redo"]), of, of_which)
        if turned < 0.19:
            return ("give", of, chance.choice(["ann", "bob", "cy"]), chance.choice(LEVELS))
        if turned < 0.21:
            sort = chance.choice(sorted(WORDS))
        if not self.keys("put", "row", "node") and chance.random() < 0.9:
            return self.by_word(WORDS[sort][0])
        if not [one for one in self.keys("suggest") if not self.is_ended(one)]:
            words = [one for one in WORDS[sort] if one not in ("take", "refuse")]
        else:
            words = WORDS[sort]
        return self.by_word(chance.choice(words + ["close"] * (len(self.keys("say")) > 0)))

    def by_word(self, made):
        chance, of = self.chance, self.of
        field, value = chance.choice(["cost", "name"]), chance.choice([0, 1, 2, -1, "1", "two"])
        keys = self.keys("row", "node")
        on = chance.choice(keys) if keys else self.names()
        return {
            "put": lambda: ("put", of, self.or_none(self.name()), self.signs()),
            "cut": lambda: ("cut", of, self.names()),
            "look": lambda: ("look", of, self.names(), chance.choice(["bold", "red"]), chance.random() < 0.7),
            "suggest": lambda: ("suggest", of, self.inner()),
            "take": lambda: ("take", of, self.left()),
            "refuse": lambda: ("refuse", of, self.left()),
            "say": lambda: ("say", of, on, "well"),
            "close": lambda: ("close", of, self.one("say")),
            "mark": lambda: ("mark", of, self.or_none(chance.choice(keys) if keys else self.name())),
            "row": lambda: ("row", of),
            "set": lambda: ("set", of, self.one("row"), field, value),
            "drop": lambda: ("drop", of, self.one("row")),
            "node": lambda: ("node", of, self.parent(), chance.choice(["leaf", "stem"])),
            "move": lambda: ("move", of, self.one("node"), self.or_none(self.one("node"))),
        }[made]()


def a_house(seed, sort, many=34, hands=("ann", "bob", "cy")):
    """A BOOK of a document ("ann", 0) of this sort, and of one more; each HAND learns of the others late, in part."""
    chance = random.Random(f"{sort} {seed}")
    table = {}
    heads = {hand: set() for hand in hands}

    def told(hand, what):
        deed = make([table[one] for one in sorted(heads[hand])], hand, what)
        table[key(deed)] = deed
        heads[hand].add(key(deed))

    def heard(hand, one):
        heads[hand] |= knew(table[one]) | {one}

    told("ann", ("open", sort))
    for hand in hands[1:]:
        told("ann", ("give", ("ann", 0), hand, chance.choice(LEVELS[3:])))
    told(hands[-1], ("open", chance.choice(sorted(WORDS))))
    while len(table) < many:
        hand, other = chance.choice(hands), chance.choice(hands)
        if chance.random() < 0.5 and heads[other]:
            heard(hand, chance.choice(sorted(heads[other])))
        else:
            deeds = [table[one] for one in sorted(heads[hand])]
            docs = sorted(key(deed) for deed in deeds if word(deed) == "open")
            of = chance.choice(docs or [("ann", 0)]) if chance.random() < 0.15 else ("ann", 0)
            if of not in docs and chance.random() < 0.9:
                continue
            told(hand, Chance(chance, deeds, hand, of).what(table[of][4][1]))
    return tuple(table[one] for one in sorted(table))


HOUSES = {sort: [a_house(seed, sort) for seed in range(40)] for sort in WORDS}
PLAINS = {sort: [Plain(book) for book in HOUSES[sort]] for sort in WORDS}
ALL = [plain for sort in sorted(PLAINS) for plain in PLAINS[sort]]
