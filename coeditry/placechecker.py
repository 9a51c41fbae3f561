"""The checker of PLACE PAPERS."""

from coeditry.deeds import is_ahead
from coeditry.errors import NoPaper
from coeditry.kinds import is_name, is_pair
from coeditry.places import place_at, places_in


def lets_place(book, one, other, thing, *, doc):
    """Whether the one is ahead of the other, where the thing is a PLACE PAPER of both; else NoKey, then NoPaper."""
    places = places_in(book, doc)
    place_at(places, one)
    place_at(places, other)
    if not is_pair(thing) or not _is_way(thing[0]) or not _is_way(thing[1]):
        raise NoPaper("shape", -1)
    _look_at_way(places, thing[0], 0, one)
    _look_at_way(places, thing[1], 1, other)
    return _is_first_ahead(places, thing[0], thing[1])


def _is_way(thing):
    """Whether a thing is a tuple of one NAME or more."""
    return isinstance(thing, tuple) and len(thing) > 0 and all([is_name(name) for name in thing])


def _look_at_way(places, way, w, sign):
    """Refuses a way, number w, that isn't the WAY of the sign of this NAME."""
    hung = None
    for j, name in enumerate(way):
        if name not in places or places[name].hung != hung:
            raise NoPaper("hangs", (w, j))
        hung = name
    if hung != sign:
        raise NoPaper("last", w)


def _is_first_ahead(places, way, other_way):
    """Whether the last of the first WAY is ahead of the last of the other one in the ROW."""
    for name, other in zip(way, other_way):
        if name != other:
            return is_ahead(places[other].placing, places[name].placing)
    return len(way) < len(other_way)
