"""Which signs of a text LIVE, and what keeps the others from it."""

from coeditry.deeds import key_of, word_of
from coeditry.fitting import cut_by
from coeditry.opened import ground_of_text
from coeditry.places import place_at, places_in, places_of, row_from


def signs_of(book, *, doc):
    """A tuple of (NAME, its sign, whether it LIVES) for the ROW of the text; or NoKey(doc)."""
    ground = ground_of_text(book, doc)
    places = places_of(ground)
    keeping = _keeping_dead(ground, places)
    return tuple([(name, places[name].sign, len(keeping[name]) == 0) for name in row_from(ground)])


def living(book, *, doc):
    """The NAMES of the text that LIVE, in their ROW; or NoKey(doc)."""
    return tuple([name for name, _, lives in signs_of(book, doc=doc) if lives])


def shown_text(book, *, doc):
    """The text of the signs that LIVE; or NoKey(doc)."""
    return "".join([sign for _, sign, lives in signs_of(book, doc=doc) if lives])


def nearest_living(signs, name):
    """The NAME itself where it LIVES, else the nearest one ahead of it that does, None of none; signs as signs_of."""
    nearest = None
    for one, _, lives in signs:
        if lives:
            nearest = one
        if one == name:
            return nearest
    return None


def kept_dead(book, name, *, doc):
    """The KEYS, rising, of all that keep the sign of a NAME, any thing, from living; or NoKey."""
    place_at(places_in(book, doc), name)
    return kept_dead_in(book, doc)[name]


def kept_dead_in(book, doc):
    """The dict of the KEYS, rising, of all that keep each sign of the text from living, by NAMES; or NoKey(doc)."""
    ground = ground_of_text(book, doc)
    keeping = _keeping_dead(ground, places_of(ground))
    return {name: tuple(sorted(keeping[name])) for name in keeping}


def _keeping_dead(ground, places):
    """The dict of the KEYS of all that keep each sign from living, by the NAMES of the places."""
    keeping = {}
    for name in places:
        # The KEY of a NAME is that of its "put", of a suggested put that of the "suggest".
        keeping[name] = [] if ground.works(name[0]) else [name[0]]
    for deed in ground.working():
        if word_of(deed) == "cut" or ground.taking(key_of(deed)) is not None:
            for name in cut_by(deed):
                keeping[name].append(key_of(deed))
    return keeping
