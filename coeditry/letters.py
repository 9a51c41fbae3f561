"""LETTERS, and the turn in which DEEDS are DUE."""

from coeditry.deeds import key_of, knew_of
from coeditry.hands import many_of
from coeditry.kinds import is_version, is_word
from coeditry.versions import has_key
from coeditry.whats import is_deed


def is_letter(thing):
    """Whether a thing is a LETTER by kind."""
    if not isinstance(thing, tuple) or len(thing) != 3:
        return False
    hand, version, deeds = thing
    if not is_word(hand) or not is_version(version) or not isinstance(deeds, tuple):
        return False
    return all([is_deed(deed) for deed in deeds])


def lacking(book, version):
    """The DEEDS of the BOOK that the VERSION hasn't, as they are DUE to it, those not DUE behind, by KEYS."""
    waiting = sorted([deed for deed in book if not has_key(version, key_of(deed))], key=key_of)
    came = {}
    told = []
    deed = first_due(version, came, waiting)
    while deed is not None:
        came[key_of(deed)] = True
        told.append(deed)
        waiting.remove(deed)
        deed = first_due(version, came, waiting)
    return tuple(told + waiting)


def first_due(version, came, deeds):
    """The first of the DEEDS of which all that it knew is in the VERSION or in came; None where there is none."""
    for deed in deeds:
        if all([_is_there(version, came, hand, many) for hand, many in knew_of(deed)]):
            return deed
    return None


def _is_there(version, came, hand, many):
    """Whether the first so many DEEDS of the HAND are in the VERSION or in came."""
    # It ends at the first that lacks, for many may be more than can be gone through.
    n = many_of(version, hand)
    while n < many and (hand, n) in came:
        n += 1
    return n >= many
