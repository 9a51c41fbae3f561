"""SUGGESTIONS of texts, and what became of them."""

from coeditry.books import deed_at, deeds_of
from coeditry.deeds import doc_of, key_of, what_of, word_of
from coeditry.errors import NoKey
from coeditry.ground import ground_of
from coeditry.living import living
from coeditry.naming import things_of
from coeditry.opened import ground_of_text


def fate_of(book, key):
    """The FATE of the SUGGESTION of a KEY, any thing: (word, a KEY or None); or NoKey."""
    deed = deed_at(book, key)
    ground = ground_of(deeds_of(book, doc_of(deed)))
    if word_of(deed) != "suggest" or ground.deed(key) is None:
        raise NoKey(key)
    return _fate(ground, living(book, doc=doc_of(deed)), deed)


def suggestions(book, *, doc):
    """A tuple of (KEY, inner, the word of its FATE) for each SUGGESTION of the text, in ORDER; or NoKey(doc)."""
    ground = ground_of_text(book, doc)
    names = living(book, doc=doc)
    return tuple([(key_of(deed), what_of(deed)[2], _fate(ground, names, deed)[0]) for deed in ground.stood()
                  if word_of(deed) == "suggest"])


def _fate(ground, names, deed):
    """The FATE of the STANDING "suggest", where these NAMES LIVE."""
    key = key_of(deed)
    if not ground.works(key):
        return ("withdrawn", key_of(ground.turn(key)))
    end = ground.ending(key)
    if end is not None:
        return ("taken" if word_of(end) == "take" else "refused", key_of(end))
    # Of a put at the front there is no NAME that could be dead.
    named = things_of(deed)
    if len(named) > 0 and not any([name in names for name in named]):
        return ("stale", None)
    return ("open", None)
