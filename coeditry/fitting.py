"""What a DEED may name, and what it puts or cuts, by the DEEDS alone, whether they STAND or not."""

from coeditry.deeds import key_of, what_of, word_of
from coeditry.kinds import is_key
from coeditry.needs import needs

TURNS = ("undo", "redo")
ENDS = ("take", "refuse")

# The sort of document that each word goes with; the others go with any.
_SORTS = {
    "put": "text",
    "cut": "text",
    "look": "text",
    "suggest": "text",
    "take": "text",
    "refuse": "text",
    "row": "rows",
    "set": "rows",
    "drop": "rows",
    "node": "tree",
    "move": "tree",
}

# The words of the DEEDS whose KEYS each word may name; of "undo" and "redo" _FOR_GOOD tells it.
_NAMED = {
    "set": ("row",),
    "drop": ("row",),
    "node": ("node",),
    "move": ("node",),
    "say": ("row", "node"),
    "mark": ("row", "node"),
    "close": ("say",),
    "take": ("suggest",),
    "refuse": ("suggest",),
}

# The words that are never undone.
_FOR_GOOD = ("open", "give", "take", "refuse", "undo", "redo")


def goes_with(word, sort):
    """Whether a word goes with a document of this sort."""
    return _SORTS.get(word, sort) == sort


def put_by(deed):
    """What a "put", or a "suggest" of one, puts: (after, SIGNS); None of any other DEED."""
    what = what_of(deed)
    if what[0] == "put":
        return what[2:]
    if what[0] == "suggest" and what[2][0] == "put":
        return what[2][1:]
    return None


def cut_by(deed):
    """The NAMES that a "cut", or a "suggest" of one, cuts; () of any other DEED."""
    what = what_of(deed)
    if what[0] == "cut":
        return what[2]
    if what[0] == "suggest" and what[2][0] == "cut":
        return what[2][1]
    return ()


def names_by(deed):
    """The NAMES of the signs that the DEED, a "put" or a "suggest" of one, puts, in their order."""
    return [(key_of(deed), k) for k in range(len(put_by(deed)[1]))]


def key_in(thing):
    """The KEY of the DEED that a THING, a KEY or a NAME, hangs on."""
    if is_key(thing):
        return thing
    return thing[0]


def may_name(deed, thing, named):
    """Whether the DEED may name this THING of the DEED named, for all that doesn't hang on what STANDS."""
    if not is_key(thing):
        put = put_by(named)
        return put is not None and thing[1] < len(put[1])
    if word_of(deed) in TURNS:
        return named[0] == deed[0] and word_of(named) not in _FOR_GOOD
    return word_of(named) in _NAMED[word_of(deed)]


def must_be_taken(thing, named):
    """Whether this THING of the DEED named is THERE only behind a "take" of it."""
    return not is_key(thing) and word_of(named) == "suggest"


def must_be_left(thing, named):
    """Whether this THING of the DEED named is THERE only as long as it is neither taken nor refused."""
    return is_key(thing) and word_of(named) == "suggest"


def need_of(deed, table):
    """The NEED of the DEED; of an "undo", a "redo" that of the DEED of its key in the table."""
    word = word_of(deed)
    if word in TURNS:
        return needs(word_of(table[what_of(deed)[2]]))
    return needs(word)
