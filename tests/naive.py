"""What the document says, told again the plainest way, by sets of KEYS; and BOOKS made by chance."""

import random


def key(deed):
    return deed[:2]


def knew(deed):
    """The KEYS that a DEED knew; a VERSION's likewise by keys_of."""
    return keys_of(deed[3])


def keys_of(version):
    return {(hand, n) for hand, many in version for n in range(many)}


def version(keys):
    hands = sorted({hand for hand, _ in keys})
    return tuple((hand, sum(one == hand for one, _ in keys)) for hand in hands)


def doc(deed):
    return key(deed) if deed[4][0] == "open" else deed[4][1]


def count(deeds, of):
    return max([deed[2] + 1 for deed in deeds if doc(deed) == of], default=0)


def make(deeds, hand, what):
    n = sum(deed[0] == hand for deed in deeds)
    of = (hand, n) if what[0] == "open" else what[1]
    return (hand, n, count(deeds, of), version({key(deed) for deed in deeds}), what)


def fault(book, deed):
    """Why a DEED of a tuple of DEEDS is none of a BOOK."""
    table = {key(one): one for one in book}
    own = dict(deed[3]).get(deed[0], 0)
    if own != deed[1]:
        return "own"
    if sum(many for _, many in deed[3]) > len(book) or not knew(deed) <= set(table):
        return "lacks"
    known = [table[one] for one in knew(deed)]
    if any(not knew(one) <= knew(deed) for one in known):
        return "closed"
    if deed[2] != count(known, doc(deed)):
        return "count"
    return None


def book_fault(book):
    keys = [key(deed) for deed in book]
    if keys != sorted(set(keys)):
        return "rising"
    for deed in book:
        if fault(book, deed):
            return fault(book, deed)
    return None


def due(had, deeds):
    """The DEEDS that are DUE to those whose KEYS are had, in their turn."""
    had = set(had)
    left = sorted(deeds)
    told = []
    while True:
        ready = [deed for deed in left if knew(deed) <= had]
        if not ready:
            return told
        told.append(ready[0])
        left.remove(ready[0])
        had.add(key(ready[0]))


def a_what(chance, deeds):
    """A WHAT by chance, mostly of a document of these DEEDS."""
    docs = sorted(key(deed) for deed in deeds if deed[4][0] == "open") or [("ann", 0)]
    keys = sorted(key(deed) for deed in deeds) or [("ann", 0)]
    of = chance.choice(docs)
    one = chance.choice(keys)
    return chance.choice([
        ("open", chance.choice(["text", "rows", "tree"])), ("give", of, "bob", "own"), ("row", of),
        ("put", of, None, "ab"), ("put", of, (one, 0), "c d"), ("cut", of, ((one, 0), (one, 1))),
        ("set", of, one, "cost", chance.randrange(-9, 9)), ("say", of, one, "well"), ("mark", of, None),
        ("suggest", of, ("cut", ((one, 0),))), ("undo", of, one), ("node", of, None, "leaf"), ("row", ("cy", 1)),
    ])


def a_book(seed, many=14, hands=("ann", "bob", "cy")):
    """A BOOK by chance: hands that make DEEDS, and learn of one another, late and in part."""
    chance = random.Random(seed)
    table = {}
    heads = {hand: set() for hand in hands}
    while len(table) < many:
        hand = chance.choice(hands)
        if chance.random() < 0.4:
            other = chance.choice(hands)
            if heads[other]:
                one = chance.choice(sorted(heads[other]))
                heads[hand] |= knew(table[one]) | {one}
        else:
            deeds = [table[one] for one in sorted(heads[hand])]
            deed = make(deeds, hand, a_what(chance, deeds))
            table[key(deed)] = deed
            heads[hand].add(key(deed))
    return tuple(table[one] for one in sorted(table))


BOOKS = [a_book(seed) for seed in range(40)] + [a_book(seed, many=3) for seed in range(10)] + [()]
