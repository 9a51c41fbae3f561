"""The checker of SPOTS."""

from coeditry.errors import NoPaper
from coeditry.kinds import is_number, is_pair
from coeditry.words import spots_of


def lets_spots(view, word, thing):
    """How many SPOTS the thing has, where it is those of the word in the VIEW; else NoPaper."""
    if not _are_spots(thing):
        raise NoPaper("shape", -1)
    due = spots_of(view, word)
    for k, spot in enumerate(thing):
        if spot not in due:
            raise NoPaper("spot", k)
        if k > 0 and not thing[k - 1] < spot:
            raise NoPaper("order", k)
    for spot in due:
        if spot not in thing:
            raise NoPaper("few", spot)
    return len(thing)


def _are_spots(thing):
    """Whether a thing is a tuple of SPOTS by kind."""
    return isinstance(thing, tuple) and all([_is_spot(spot) for spot in thing])


def _is_spot(thing):
    if not isinstance(thing, tuple) or len(thing) != 3:
        return False
    d, place, at = thing
    return is_number(d) and is_number(place) and is_pair(at) and isinstance(at[0], str) and is_number(at[1])
