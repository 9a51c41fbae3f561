"""The THINGS that a DEED names."""

from coeditry.deeds import what_of
from coeditry.forms import FORMS, INNERS
from coeditry.kinds import is_key

# The kinds of things that are KEYS, a NAME or NAMES, perhaps None.
NAMING = ("key", "after", "parent", "names", "on", "at")


def things_of(deed):
    """The THINGS that the DEED names, a tuple, as they stand in it."""
    what = what_of(deed)
    if what[0] == "suggest":
        inner = what[2]
        return _named(INNERS[inner[0]], inner[1:])
    # The document, the first thing of each form but that of "open", is no THING.
    return _named(FORMS[what[0]][1:], what[2:])


def _named(kinds, things):
    """The THINGS among things of these kinds."""
    found = []
    for kind, thing in zip(kinds, things):
        if kind in NAMING and thing is not None:
            found.extend(_each(kind, thing))
    return tuple(found)


def _each(kind, thing):
    """The THINGS that one thing of its kind is: each of NAMES, else itself."""
    if kind == "names" or (kind == "on" and not is_key(thing)):
        return thing
    return (thing,)
