"""The checker of GAPS."""

from coeditry.books import found_at
from coeditry.deeds import knew_of
from coeditry.errors import NoPaper
from coeditry.hands import many_of
from coeditry.kinds import is_key, is_pair, is_word
from coeditry.versions import has_key, version_of


def lets_gap(book, version, thing):
    """The word of the thing, where it is a GAP of the VERSION in the BOOK; else NoPaper."""
    if _is_lacks(thing):
        more, less = version, version_of(book)
    elif _is_open(thing):
        key = thing[1]
        deed = found_at(book, key)
        if deed is None or not has_key(version, key):
            raise NoPaper("key", -1)
        more, less = knew_of(deed), version
    else:
        raise NoPaper("shape", -1)
    hand = thing[-1]
    if many_of(more, hand) <= many_of(less, hand):
        raise NoPaper("gap", -1)
    return thing[0]


def _is_lacks(thing):
    return is_pair(thing) and thing[0] == "lacks" and is_word(thing[1])


def _is_open(thing):
    if not isinstance(thing, tuple) or len(thing) != 3:
        return False
    return thing[0] == "open" and is_key(thing[1]) and is_word(thing[2])
