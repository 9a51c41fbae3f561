"""What the STANDING DEEDS of one document tell."""

from coeditry.deeds import key_of, what_of, word_of
from coeditry.fitting import ENDS, TURNS, goes_with, key_in, may_name, must_be_left, must_be_taken, need_of
from coeditry.kinds import is_key, reaches
from coeditry.naming import things_of


class Ground:
    """What STANDS of one document, as far as its DEEDS were gone through in ORDER."""

    def __init__(self):
        self._stood = {}
        self._sort = None
        self._rights = {}
        self._ends = {}
        self._turns = {}

    def look(self, deed):
        """The REASON of the next DEED in ORDER, which is kept where it STANDS."""
        reason = self.reason(deed)
        if reason is None:
            self.add(deed)
        return reason

    def add(self, deed):
        """Keeps the next DEED in ORDER, one that STANDS."""
        what = what_of(deed)
        word = what[0]
        self._stood[key_of(deed)] = deed
        if word == "open":
            self._sort = what[1]
            self._rights[deed[0]] = (key_of(deed), "own")
        elif word == "give":
            self._rights[what[2]] = (key_of(deed), what[3])
        elif word in ENDS:
            self._ends[what[2]] = deed
        elif word in TURNS:
            self._turns[what[2]] = deed

    def doc_sort(self):
        """The sort of the document, None where no "open" stands."""
        return self._sort

    def stood(self):
        """The DEEDS that STAND, in ORDER."""
        return list(self._stood.values())

    def working(self):
        """The DEEDS that WORK, in ORDER."""
        return [deed for key, deed in self._stood.items() if self.works(key)]

    def deed(self, key):
        """The STANDING DEED of a KEY, any thing, None where there is none."""
        if not is_key(key):
            return None
        return self._stood.get(key)

    def turn(self, key):
        """The TURN of the DEED of the KEY, None where it has none."""
        return self._turns.get(key)

    def works(self, key):
        """Whether the DEED of the KEY WORKS."""
        turn = self.turn(key)
        return key in self._stood and (turn is None or word_of(turn) == "redo")

    def ending(self, key):
        """The STANDING "take" or "refuse" of the suggestion of the KEY, None where there is none."""
        return self._ends.get(key)

    def taking(self, key):
        """The STANDING "take" of the suggestion of the KEY, None where there is none."""
        end = self.ending(key)
        if end is None or word_of(end) == "refuse":
            return None
        return end

    def right(self, hand):
        """By which DEED the HAND has its LEVEL, and the LEVEL: (a KEY or None, LEVEL)."""
        return self._rights.get(hand, (None, "none"))

    def reason(self, deed):
        """The REASON of the next DEED in ORDER, which is not kept."""
        word = word_of(deed)
        if word == "open":
            return None
        if self._sort is None or not goes_with(word, self._sort):
            return ("doc",)
        gone = [j for j, thing in enumerate(things_of(deed)) if not self._is_there(deed, thing)]
        if word in TURNS and len(gone) > 0:
            return ("key",)
        level = self.right(deed[0])[1]
        if not reaches(level, need_of(deed, self._stood)):
            return ("level", level)
        if len(gone) > 0:
            return ("there", gone[0])
        return None

    def _is_there(self, deed, thing):
        """Whether the THING of the DEED is THERE."""
        named = self._stood.get(key_in(thing))
        if named is None or not may_name(deed, thing, named):
            return False
        if must_be_taken(thing, named):
            return self.taking(key_of(named)) is not None
        if must_be_left(thing, named):
            return key_of(named) not in self._ends
        return True


def ground_of(deeds):
    """The Ground behind all these DEEDS of one document, in ORDER."""
    ground = Ground()
    for deed in deeds:
        ground.look(deed)
    return ground


def reasons_of(deeds):
    """The dict of the REASONS of these DEEDS of one document, in ORDER, by their KEYS."""
    ground = Ground()
    told = {}
    for deed in deeds:
        told[key_of(deed)] = ground.look(deed)
    return told
