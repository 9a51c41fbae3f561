"""GAPS: why a VERSION isn't CLOSED in a BOOK."""

from coeditry.deeds import key_of, knew_of
from coeditry.hands import many_of
from coeditry.versions import has_key, version_of


def gap_of(book, version):
    """A GAP of the VERSION in the BOOK, None where it is CLOSED."""
    hand = _first_more(version, version_of(book))
    if hand is not None:
        return ("lacks", hand)
    for deed in book:
        if has_key(version, key_of(deed)):
            hand = _first_more(knew_of(deed), version)
            if hand is not None:
                return ("open", key_of(deed), hand)
    return None


def _first_more(one, other):
    """The first HAND of which the VERSION one has more than the VERSION other, None where there is none."""
    for hand, many in one:
        if many > many_of(other, hand):
            return hand
    return None
