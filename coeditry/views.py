"""What a HAND sees: SIGHTS of documents, without KEYS."""

from coeditry.bodies import shown_in
from coeditry.comments import comments, held
from coeditry.errors import NoKey
from coeditry.kinds import is_key
from coeditry.living import nearest_living, signs_of
from coeditry.marks import AGE, marks
from coeditry.opened import ground_in
from coeditry.sights import seen_by
from coeditry.suggestions import suggestions


def sight(book, key, *, hand, age=AGE):
    """The SIGHT of the HAND of the document of a KEY, any thing; or NoKey."""
    if not is_key(key) or key not in seen_by(book, hand=hand):
        raise NoKey(key)
    ground = ground_in(book, key)
    sort, level = ground.doc_sort(), ground.right(hand)[1]
    shown = shown_in(book, key)
    places = {thing: place for place, thing in enumerate(shown)}
    left = _suggestions(book, key, places) if sort == "text" else ()
    marked = [(one, places.get(led)) for one, led in marks(book, doc=key, age=age)]
    return (sort, level, _body(book, key, sort, shown, places), _comments(book, key, places), left, tuple(marked))


def view(book, *, hand, age=AGE):
    """The VIEW of the HAND: the SIGHTS of the documents that it SEES, as their KEYS rise."""
    return tuple([sight(book, doc, hand=hand, age=age) for doc in seen_by(book, hand=hand)])


def _body(book, doc, sort, shown, places):
    """The body of a document of this sort, by how each thing is shown, and by its PLACE."""
    if sort == "text":
        return tuple([(sign, shown[name]) for name, sign, lives in signs_of(book, doc=doc) if lives])
    if sort == "rows":
        return tuple(shown.values())
    return tuple([(places.get(parent), label) for parent, label in shown.values()])


def _comments(book, doc, places):
    """Those that aren't CLOSED, each as (HAND, words, word, places, text)."""
    told = []
    for key, words, closed in comments(book, doc=doc):
        if not closed:
            word, what, text = held(book, key)
            told.append((key[0], words, word, _places_of(what, places), text))
    return tuple(told)


def _places_of(what, places):
    """The PLACES, rising, of NAMES, of a KEY, of None."""
    if what is None:
        return ()
    if is_key(what):
        return (places[what],)
    return tuple(sorted([places[name] for name in what]))


def _suggestions(book, doc, places):
    """Those of a text that are open or stale, each as (HAND, inner by PLACES, word)."""
    signs = signs_of(book, doc=doc)
    return tuple([(key[0], _inner_by_places(inner, signs, places), word)
                  for key, inner, word in suggestions(book, doc=doc) if word in ("open", "stale")])


def _inner_by_places(inner, signs, places):
    """What is suggested, with PLACES for the NAMES."""
    if inner[0] == "cut":
        return ("cut", tuple(sorted([places[name] for name in inner[1] if name in places])))
    _, after, text = inner
    return ("put", places.get(nearest_living(signs, after)), text)
