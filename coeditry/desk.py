"""A desk that keeps a house, and answers rows."""

from coeditry.deeds import key_of
from coeditry.errors import NoKey, NoLine
from coeditry.house import House
from coeditry.lines import shown_key
from coeditry.living import shown_text
from coeditry.rowforms import form_of
from coeditry.sights import seen_by


class Desk:
    """A house, none at first, and how many rows were answered."""

    def __init__(self):
        self._house = None
        self._begun = 0
        self._ended = 0

    def say(self, row):
        """The answer to a row, any text; or NoLine, or as the house refuses."""
        self._begun += 1
        try:
            return self._answer(row)
        finally:
            self._ended += 1

    def counts(self):
        """How many rows were begun, and how many ended."""
        return (self._begun, self._ended)

    def _answer(self, row):
        form = form_of(row)
        if form == () or (form[0] != "open" and self._house is None):
            raise NoLine(row)
        if form[0] == "open":
            self._house = House(form[1])
            return "ok"
        if form[0] in ("do", "all", "back"):
            return _done(self._house, form[0], form[1])
        if len(form) == 1:
            return _counted(self._house, form[0])
        return _told_of(self._house, form)


def _done(house, word, thing):
    """Does STEPS, or takes so many back."""
    if word == "do":
        return str(house.run(thing, most=len(thing)))
    if word == "all":
        house.step(("all", thing))
        return "ok"
    house.back(times=thing)
    return str(sum([len(house.book(hand)) for hand in house.hands()]))


def _counted(house, word):
    """How many STEPS, or how many LETTERS."""
    return str(len(house)) if word == "steps" else str(len(house.letters()))


def _told_of(house, form):
    """What is told of a HAND."""
    word, hand = form[:2]
    if word == "book":
        return _shown_keys([key_of(deed) for deed in house.book(hand)])
    if word == "waiting":
        return _shown_keys([key_of(deed) for deed in house.waiting(hand)])
    if word == "sees":
        return _shown_keys(seen_by(house.book(hand), hand=hand))
    if word == "find":
        return _joined([f"{d}.{place}" for d, place, _ in house.spots(hand, form[2])])
    return _shown_signs(house.book(hand), hand, form[2])


def _shown_signs(book, hand, key):
    """The signs shown of the text of the KEY; or NoKey."""
    if key not in seen_by(book, hand=hand):
        raise NoKey(key)
    return "'" + shown_text(book, doc=key)


def _shown_keys(keys):
    return _joined([shown_key(key) for key in keys])


def _joined(words):
    """The words with single blanks between, - of none."""
    return " ".join(words) if len(words) > 0 else "-"
