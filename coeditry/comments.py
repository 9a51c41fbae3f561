"""The COMMENTS of documents, and what they HOLD."""

from coeditry.books import deed_at, deeds_of
from coeditry.deeds import doc_of, key_of, what_of, word_of
from coeditry.errors import NoKey
from coeditry.ground import ground_of
from coeditry.kinds import is_key
from coeditry.living import signs_of
from coeditry.opened import ground_in
from coeditry.rows import rows_of
from coeditry.trees import is_there


def comments(book, *, doc):
    """A tuple of (KEY, words, whether it is CLOSED) for each COMMENT of the document, in ORDER; or NoKey(doc)."""
    works = ground_in(book, doc).working()
    closed = {what_of(deed)[2]: True for deed in works if word_of(deed) == "close"}
    return tuple([(key_of(deed), what_of(deed)[3], key_of(deed) in closed) for deed in works
                  if word_of(deed) == "say"])


def held(book, key):
    """What the COMMENT of a KEY, any thing, HOLDS: ("holds" or "was", what, text); or NoKey."""
    deed = comment_at(book, key)
    on = what_of(deed)[2]
    if not is_key(on):
        return _held_signs(book, doc_of(deed), on)
    return _held_thing(book, deed_at(book, on))


def comment_at(book, key):
    """The DEED of the COMMENT of a KEY, any thing; or NoKey."""
    deed = deed_at(book, key)
    if word_of(deed) != "say" or not ground_of(deeds_of(book, doc_of(deed))).works(key):
        raise NoKey(key)
    return deed


def _held_signs(book, doc, names):
    """What a COMMENT on NAMES of the text HOLDS."""
    signs = [(name, sign, lives) for name, sign, lives in signs_of(book, doc=doc) if name in names]
    living = [(name, sign) for name, sign, lives in signs if lives]
    if len(living) == 0:
        return ("was", (), "".join([sign for _, sign, _ in signs]))
    return ("holds", tuple([name for name, _ in living]), "".join([sign for _, sign in living]))


def _held_thing(book, deed):
    """What a COMMENT on the row or the node of this DEED HOLDS."""
    key, doc = key_of(deed), doc_of(deed)
    if word_of(deed) == "node":
        text = what_of(deed)[3]
        there = is_there(book, key, doc=doc)
    else:
        text = ""
        there = key in [row for row, _ in rows_of(book, doc=doc)]
    return ("holds", key, text) if there else ("was", None, text)
