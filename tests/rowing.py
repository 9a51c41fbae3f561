"""What the rows of a STAND PAPER SHOW, once more, by the words of the document."""

from tests.naive import doc, key
from tests.plain import LEVELS, SORTS, UNDONE, Plain, place, things, word


def is_name(thing):
    return isinstance(thing[0], tuple)


class Rows:
    """The DEEDS of a document, and the rows of a paper that were gone through."""

    def __init__(self, book, asked):
        self.plain = Plain(book)
        self.deeds = self.plain.deeds(doc(self.plain.table[asked]))
        self.told = {}

    def stands(self, deed):
        return word(deed) == "open" or (key(deed) in self.told and self.told[key(deed)] is None)

    def is_out(self, deed):
        return self.told.get(key(deed)) is not None

    def ahead(self, deed, *words):
        return [one for one in self.deeds if place(one) < place(deed) and (not words or word(one) in words)]

    def ends(self, deed, of, *words):
        return [one for one in self.ahead(deed, *words) if one[4][2] == of]

    def is_doc_gone(self, deed):
        opens = self.ahead(deed, "open")
        if not opens:
            return True
        return any(word(deed) in words.split() and sort != opens[0][4][1] for sort, words in SORTS.items())

    def is_gone_by_book(self, deed, thing):
        of = thing[0] if is_name(thing) else thing
        found = [one for one in self.ahead(deed) if key(one) == of]
        if not found:
            return True
        named = found[0]
        if is_name(thing):
            what = named[4] if word(named) != "suggest" else named[4][1:3][1]
            return what[0] != "put" or thing[1] >= len(what[-1])
        if word(deed) in ("undo", "redo"):
            return named[0] != deed[0] or word(named) not in UNDONE
        fit = {"set": "row", "drop": "row", "node": "node", "move": "node", "close": "say", "take": "suggest",
               "refuse": "suggest", "say": "row node", "mark": "row node"}[word(deed)]
        return word(named) not in fit.split()

    def named(self, thing):
        return self.plain.table[thing[0] if is_name(thing) else thing]

    def asks_for_a_take(self, thing):
        return is_name(thing) and word(self.named(thing)) == "suggest"

    def asks_for_none(self, deed, thing):
        return word(deed) in ("take", "refuse", "undo", "redo") and word(self.named(thing)) == "suggest"

    def is_there(self, deed, thing):
        if self.is_gone_by_book(deed, thing) or not self.stands(self.named(thing)):
            return False
        of = key(self.named(thing))
        if self.asks_for_a_take(thing) and not any(self.stands(one) for one in self.ends(deed, of, "take")):
            return False
        if self.asks_for_none(deed, thing):
            return all(self.is_out(one) for one in self.ends(deed, of, "take", "refuse"))
        return True

    def is_gone(self, deed, thing):
        if self.is_gone_by_book(deed, thing) or self.is_out(self.named(thing)):
            return True
        of = key(self.named(thing))
        if self.asks_for_a_take(thing) and all(self.is_out(one) for one in self.ends(deed, of, "take")):
            return True
        if self.asks_for_none(deed, thing):
            return any(self.stands(one) for one in self.ends(deed, of, "take", "refuse"))
        return False

    def holds(self, deed, by):
        opens = [one for one in self.ahead(deed, "open") if one[0] == deed[0]]
        gives = [one for one in self.ahead(deed, "give") if one[4][2] == deed[0]]
        if by is None:
            return not opens and all(self.is_out(one) for one in gives)
        if by in [key(one) for one in opens]:
            return all(self.is_out(one) for one in gives)
        for give in gives:
            if key(give) == by:
                behind = [one for one in gives if place(give) < place(one)]
                return self.stands(give) and all(self.is_out(one) for one in behind)
        return False

    def level(self, by):
        if by is None:
            return "none"
        return "own" if word(self.plain.table[by]) == "open" else self.plain.table[by][4][3]

    def shows(self, deed, reason, by):
        if word(deed) == "open":
            return reason is None
        if self.is_doc_gone(deed) or reason == ("doc",):
            return self.is_doc_gone(deed) and reason == ("doc",)
        named = things(deed)
        is_turn = word(deed) in ("undo", "redo")
        if reason == ("key",):
            return is_turn and self.is_gone(deed, named[0])
        if is_turn and not self.is_there(deed, named[0]):
            return False
        need = self.plain.need(word(self.named(named[0])) if is_turn else word(deed))
        is_low = LEVELS.index(self.level(by)) < LEVELS.index(need)
        if reason is None:
            return not is_low and all(self.is_there(deed, thing) for thing in named)
        if reason[0] == "level":
            return is_low and reason[1] == self.level(by)
        j = reason[1]
        if is_turn or is_low or j >= len(named):
            return False
        return all(self.is_there(deed, thing) for thing in named[:j]) and self.is_gone(deed, named[j])

    def fault(self, row, last):
        of, reason, by = row
        found = [one for one in self.deeds if key(one) == of]
        if not found or (last is not None and place(found[0]) <= place(self.plain.table[last])):
            return "row"
        deed = found[0]
        if reason in (("doc",), ("key",)) or word(deed) == "open":
            if by is not None:
                return "by"
        elif not self.holds(deed, by):
            return "by"
        return None if self.shows(deed, reason, by) else "reason"


def looked_at(book, asked, paper):
    """("let", REASON), or (word, at) of what is refused; the paper one of shape."""
    rows = Rows(book, asked)
    last = None
    for r, row in enumerate(paper):
        fault = rows.fault(row, last)
        if fault is not None:
            return (fault, r)
        rows.told[row[0]] = row[1]
        last = row[0]
    return ("let", paper[-1][1]) if last == asked else ("last", -1)
