"""Who wrote the signs of a text."""

from coeditry.deeds import word_of
from coeditry.living import living
from coeditry.places import places_in


def wrote(book, key):
    """A tuple of (sign, HAND, by whose "take" it came or None) for each sign that LIVES of a text; or NoKey(key)."""
    places = places_in(book, key)
    return tuple([(places[name].sign, name[0][0], _taker_of(places[name])) for name in living(book, doc=key)])


def _taker_of(place):
    """The HAND of the "take" by which the sign came, None of a "put"."""
    if word_of(place.placing) == "put":
        return None
    return place.placing[0]
