"""The LOOKS of signs."""

from coeditry.deeds import what_of, word_of
from coeditry.living import signs_of
from coeditry.opened import ground_of_text
from coeditry.places import place_at, places_of


def looks_on(book, name, *, doc):
    """The LOOKS, rising, that are ON of the sign of a NAME, any thing, in the text; or NoKey."""
    ground = ground_of_text(book, doc)
    place_at(places_of(ground), name)
    return _those_on(_turned(ground), name)


def looks_in(book, doc):
    """The dict of the LOOKS, rising, that are ON, by the NAMES of the text that a "look" has; or NoKey(doc)."""
    turned = _turned(ground_of_text(book, doc))
    return {name: _those_on(turned, name) for name in turned}


def runs(book, *, doc):
    """The SHOWN text as a tuple of (its next signs of one look, their LOOKS, rising); or NoKey(doc)."""
    turned = _turned(ground_of_text(book, doc))
    told = []
    for name, sign, lives in signs_of(book, doc=doc):
        if lives:
            on = _those_on(turned, name)
            if len(told) > 0 and told[-1][1] == on:
                told[-1] = (told[-1][0] + sign, on)
            else:
                told.append((sign, on))
    return tuple(told)


def _turned(ground):
    """The dict, by NAMES, of dicts of whether each LOOK was turned on by the last WORKING "look" of it."""
    turned = {}
    for deed in ground.working():
        if word_of(deed) == "look":
            _, _, names, look, on = what_of(deed)
            for name in names:
                states = turned.setdefault(name, {})
                states[look] = on
    return turned


def _those_on(turned, name):
    """The LOOKS of the NAME that are ON, rising."""
    states = turned.get(name, {})
    return tuple([look for look in sorted(states) if states[look]])
