"""VERSIONS: how many DEEDS of each HAND are there."""

from coeditry.deeds import key_of, knew_of
from coeditry.errors import NoDeed
from coeditry.hands import many_of, version_from


def version_of(book):
    """The VERSION of the BOOK."""
    manys = {}
    for deed in book:
        manys[deed[0]] = manys.get(deed[0], 0) + 1
    return version_from(manys)


def has_key(version, key):
    """Whether the VERSION has the KEY."""
    return key[1] < many_of(version, key[0])


def either(one, other):
    """The VERSION that has what either VERSION has."""
    manys = {hand: many for hand, many in one}
    for hand, many in other:
        manys[hand] = max(many, manys.get(hand, 0))
    return version_from(manys)


def both(one, other):
    """The VERSION that has what both VERSIONS have."""
    return version_from({hand: min(many, many_of(other, hand)) for hand, many in one})


def has_all(one, other):
    """Whether the VERSION one has all of the VERSION other."""
    return all([many_of(one, hand) >= many for hand, many in other])


def is_closed(book, version):
    """Whether the VERSION is CLOSED in the BOOK."""
    if not has_all(version_of(book), version):
        return False
    return all([has_all(version, knew_of(deed)) for deed in _had(book, version)])


def book_at(book, version):
    """The BOOK of the DEEDS that the VERSION has, NoDeed("closed") where it isn't CLOSED."""
    if not is_closed(book, version):
        raise NoDeed("closed")
    return tuple(_had(book, version))


def closed_over(book, version):
    """The least CLOSED VERSION that has all KEYS of the VERSION that the BOOK has."""
    # What those knew that a DEED of a BOOK knew is in its own knew: so looking once is enough.
    reached = both(version, version_of(book))
    for deed in _had(book, version):
        reached = either(reached, knew_of(deed))
    return reached


def _had(book, version):
    """The DEEDS of the BOOK that the VERSION has."""
    return [deed for deed in book if has_key(version, key_of(deed))]
