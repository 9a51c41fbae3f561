"""PLACE PAPERS: by which WAYS two signs stand as they do."""

from coeditry.places import place_at, places_in


def place_paper(book, one, other, *, doc):
    """The WAYS of the signs of two NAMES, any things, in the text: a pair; or NoKey."""
    places = places_in(book, doc)
    place_at(places, one)
    place_at(places, other)
    return (_way_of(places, one), _way_of(places, other))


def _way_of(places, name):
    """The NAMES from the front on, each next one HANGING ON the one ahead, to this one."""
    way = []
    while name is not None:
        way.append(name)
        name = places[name].hung
    return tuple(reversed(way))
