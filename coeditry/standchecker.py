"""The checker of STAND PAPERS."""

from coeditry.books import deed_at, deeds_of, found_at, table_of
from coeditry.deeds import doc_of, is_ahead, key_of, what_of, word_of
from coeditry.errors import NoPaper
from coeditry.fitting import ENDS, TURNS, goes_with, key_in, may_name, must_be_left, must_be_taken, need_of
from coeditry.kinds import is_key, is_level, is_number, is_pair, reaches
from coeditry.naming import things_of

_BARE = (("doc",), ("key",))

# No REASON is so.
_NOTHING = ()


def lets_stand(book, key, thing):
    """The REASON of the DEED of the KEY, where the thing is a STAND PAPER of it; else NoKey, then NoPaper."""
    deed = deed_at(book, key)
    _look_at_shape(thing)
    seen = Seen(deeds_of(book, doc_of(deed)))
    for r, row in enumerate(thing):
        fault = seen.fault(row)
        if fault is not None:
            raise NoPaper(fault, r)
        seen.add(row)
    if thing[-1][0] != key:
        raise NoPaper("last", -1)
    return thing[-1][1]


class Seen:
    """What the rows of a paper that were gone through SHOW of the DEEDS of one document."""

    def __init__(self, deeds):
        """The DEEDS are handed in in ORDER."""
        self._deeds = deeds
        self._table = table_of(deeds)
        self._places = {key_of(deed): place for place, deed in enumerate(deeds)}
        self._next = 0
        self._reasons = {}

    def add(self, row):
        """Goes on behind a row without a fault."""
        self._next = self._places[row[0]] + 1
        self._reasons[row[0]] = row[1]

    def fault(self, row):
        """Why the row can't be the next one: a word, or None."""
        key, reason, by = row
        deed = self._table.get(key)
        if deed is None or self._places[key] < self._next:
            return "row"
        if not self._fits_by(deed, reason, by):
            return "by"
        if self._shown(deed, by) != reason:
            return "reason"
        return None

    def _fits_by(self, deed, reason, by):
        """Whether by may stand beside the REASON that is written."""
        if reason in _BARE or word_of(deed) == "open":
            return by is None
        return self._holds(deed, by)

    def _holds(self, deed, by):
        """Whether the HAND of the DEED has its LEVEL there by the DEED of by, or by none."""
        ahead = self._ahead(deed)
        gives = [one for one in ahead if word_of(one) == "give" and what_of(one)[2] == deed[0]]
        opens = [one for one in ahead if word_of(one) == "open" and one[0] == deed[0]]
        if by is None:
            return len(opens) == 0 and self._are_out(gives)
        source = found_at(ahead, by)
        if source in opens:
            return self._are_out(gives)
        if source not in gives or not self._stands(source):
            return False
        return self._are_out([one for one in gives if is_ahead(source, one)])

    def _shown(self, deed, by):
        """The one REASON that the DEED SHOWS, where by HOLDS; _NOTHING where it SHOWS none."""
        word = word_of(deed)
        if word == "open":
            return None
        if not self._has_doc(deed):
            return ("doc",)
        there = [self._is_there(deed, thing) for thing in things_of(deed)]
        if word in TURNS and there[0] is not True:
            return ("key",) if there[0] is False else _NOTHING
        level = self._level(by)
        if not reaches(level, need_of(deed, self._table)):
            return ("level", level)
        for j, truth in enumerate(there):
            if truth is not True:
                return ("there", j) if truth is False else _NOTHING
        return None

    def _has_doc(self, deed):
        """Whether an "open" of the sort that goes with the DEED's word is ahead of it."""
        opens = [one for one in self._ahead(deed) if word_of(one) == "open"]
        return len(opens) > 0 and goes_with(word_of(deed), what_of(opens[0])[1])

    def _level(self, by):
        """The LEVEL by the DEED of by, "none" by None."""
        if by is None:
            return "none"
        what = what_of(self._table[by])
        return "own" if what[0] == "open" else what[3]

    def _is_there(self, deed, thing):
        """True where the THING SHOWS that it is THERE, False that it isn't, None where nothing is known."""
        named = found_at(self._ahead(deed), key_in(thing))
        if named is None or not may_name(deed, thing, named) or self._is_out(named):
            return False
        if must_be_taken(thing, named):
            truth = self._is_taken(deed, named)
        elif must_be_left(thing, named):
            truth = self._is_left(deed, named)
        else:
            truth = True
        # That it isn't THERE may be known without a row of the DEED named, that it is may not.
        if truth is True and not self._stands(named):
            return None
        return truth

    def _is_taken(self, deed, named):
        """Whether a "take" of the suggestion STANDS ahead of the DEED, None where nothing is known."""
        takes = self._ends(deed, named, ("take",))
        if self._are_out(takes):
            return False
        return True if self._has_standing(takes) else None

    def _is_left(self, deed, named):
        """Whether no "take" and no "refuse" of it STANDS ahead of the DEED, None where nothing is known."""
        ends = self._ends(deed, named, ENDS)
        if self._has_standing(ends):
            return False
        return True if self._are_out(ends) else None

    def _ends(self, deed, named, words):
        """The DEEDS of these words that name the suggestion, ahead of the DEED."""
        key = key_of(named)
        return [one for one in self._ahead(deed) if word_of(one) in words and what_of(one)[2] == key]

    def _ahead(self, deed):
        return self._deeds[:self._places[key_of(deed)]]

    def _stands(self, deed):
        """Whether the rows SHOW that the DEED STANDS; of an "open", that always does, it is never asked."""
        return self._reasons.get(key_of(deed), _NOTHING) is None

    def _is_out(self, deed):
        """Whether the rows SHOW that the DEED doesn't STAND."""
        return self._reasons.get(key_of(deed)) is not None

    def _are_out(self, deeds):
        return all([self._is_out(deed) for deed in deeds])

    def _has_standing(self, deeds):
        return any([self._stands(deed) for deed in deeds])


def _look_at_shape(thing):
    if not isinstance(thing, tuple) or len(thing) == 0:
        raise NoPaper("shape", -1)
    for r, row in enumerate(thing):
        if not _is_row(row):
            raise NoPaper("shape", r)


def _is_row(thing):
    if not isinstance(thing, tuple) or len(thing) != 3:
        return False
    key, reason, by = thing
    return is_key(key) and _is_reason(reason) and (by is None or is_key(by))


def _is_reason(thing):
    """Whether a thing is a REASON by kind."""
    if thing is None or thing in _BARE:
        return True
    if not is_pair(thing):
        return False
    if thing[0] == "level":
        return is_level(thing[1])
    return thing[0] == "there" and is_number(thing[1])
