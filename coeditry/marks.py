"""The MARKS of HANDS in documents."""

from coeditry.deadby import dead_by
from coeditry.deeds import count_of, what_of, word_of
from coeditry.kinds import is_key, is_word
from coeditry.living import nearest_living, signs_of
from coeditry.opened import ground_in

AGE = 8


def mark_of(book, hand, *, doc):
    """The MARK of a HAND, any thing, in the document: (at, what it is LED to), None of none; or NoKey(doc)."""
    last = _last_marks(ground_in(book, doc))
    if not is_word(hand) or hand not in last:
        return None
    at = what_of(last[hand])[2]
    return (at, _led(book, doc, at))


def marks(book, *, doc, age=AGE):
    """A rising tuple of (HAND, what its MARK is LED to) for the MARKS of the document FRESH by age; or NoKey(doc)."""
    ground = ground_in(book, doc)
    last = _last_marks(ground)
    newest = max([count_of(deed) for deed in ground.stood()])
    return tuple([(hand, _led(book, doc, what_of(last[hand])[2])) for hand in sorted(last)
                  if newest - count_of(last[hand]) <= age])


def _last_marks(ground):
    """The dict of the last WORKING "mark" of each HAND."""
    return {deed[0]: deed for deed in ground.working() if word_of(deed) == "mark"}


def _led(book, doc, at):
    """What a MARK at a NAME, a KEY or None is LED to."""
    if at is None:
        return None
    if is_key(at):
        return at if len(dead_by(book, at, doc=doc)) == 0 else None
    return nearest_living(signs_of(book, doc=doc), at)
