"""The BOOK of what a HAND SEES alone."""

from coeditry.deeds import count_of, doc_of, key_of, knew_of, what_of
from coeditry.forms import FORMS, INNERS
from coeditry.hands import version_from
from coeditry.kinds import is_key, is_name
from coeditry.naming import NAMING
from coeditry.sights import seen_by

# What is added to the numbers of those that aren't kept, so that none of them is of a DEED.
_GONE = 1000000


def parted(book, *, hand):
    """The BOOK of the DEEDS of documents that the HAND SEES, numbered anew."""
    seen = seen_by(book, hand=hand)
    kept = [deed for deed in book if doc_of(deed) in seen]
    keys = _keys_anew(kept)
    return tuple([_deed_anew(deed, keys) for deed in kept])


def _keys_anew(kept):
    """The dict of the KEYS anew, by those that the DEEDS, whose KEYS rise, have."""
    manys = {}
    keys = {}
    for deed in kept:
        hand = deed[0]
        keys[key_of(deed)] = (hand, manys.get(hand, 0))
        manys[hand] = manys.get(hand, 0) + 1
    return keys


def _deed_anew(deed, keys):
    hand, n = keys[key_of(deed)]
    what = what_of(deed)
    what_anew = (what[0],) + _all_anew(FORMS[what[0]], what[1:], keys)
    return (hand, n, count_of(deed), _version_anew(knew_of(deed), keys), what_anew)


def _version_anew(version, keys):
    """The VERSION of those of its KEYS that are kept."""
    return version_from({hand: len([key for key in keys if key[0] == hand and key[1] < many])
                         for hand, many in version})


def _all_anew(kinds, things, keys):
    """The tuple of things of these kinds, with KEYS anew."""
    return tuple([_thing_anew(kind, thing, keys) for kind, thing in zip(kinds, things)])


def _thing_anew(kind, thing, keys):
    if kind == "inner":
        return (thing[0],) + _all_anew(INNERS[thing[0]], thing[1:], keys)
    if kind not in NAMING or thing is None:
        return thing
    if is_key(thing):
        return _key_anew(thing, keys)
    if is_name(thing):
        return _name_anew(thing, keys)
    return tuple(sorted([_name_anew(name, keys) for name in thing]))


def _key_anew(key, keys):
    return keys.get(key, (key[0], key[1] + _GONE))


def _name_anew(name, keys):
    return (_key_anew(name[0], keys), name[1])
