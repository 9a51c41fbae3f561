"""Whether any thing is a WHAT, or a DEED, by its kind alone."""

from coeditry.forms import FORMS, INNERS, SORTS
from coeditry.kinds import (are_names, is_key, is_level, is_name, is_number, is_said, is_signs, is_value, is_version,
                            is_word)


def is_what(thing):
    """Whether a thing is a WHAT."""
    if not _begins_with_text(thing) or thing[0] not in FORMS:
        return False
    return _fit(FORMS[thing[0]], thing[1:])


def is_deed(thing):
    """Whether a thing is a DEED."""
    if not isinstance(thing, tuple) or len(thing) != 5:
        return False
    hand, n, count, knew, what = thing
    return is_word(hand) and is_number(n) and is_number(count) and is_version(knew) and is_what(what)


def _is_inner(thing):
    """Whether a thing is what a "suggest" may suggest."""
    if not _begins_with_text(thing) or thing[0] not in INNERS:
        return False
    return _fit(INNERS[thing[0]], thing[1:])


def _begins_with_text(thing):
    # Any first thing may stand here, and only a text can be looked up among the words.
    return isinstance(thing, tuple) and len(thing) > 0 and isinstance(thing[0], str)


def _fit(kinds, things):
    """Whether the things are one of each kind, in this order."""
    if len(things) != len(kinds):
        return False
    return all([_fits(kind, thing) for kind, thing in zip(kinds, things)])


def _fits(kind, thing):
    if kind in ("after", "parent", "at") and thing is None:
        return True
    if kind == "sort":
        return isinstance(thing, str) and thing in SORTS
    if kind == "truth":
        return isinstance(thing, bool)
    if kind == "inner":
        return _is_inner(thing)
    if kind in ("word", "level", "signs", "said", "value"):
        return _fits_plainly(kind, thing)
    return _fits_as_named(kind, thing)


def _fits_plainly(kind, thing):
    """Whether a thing is the text or the number that the kind asks for."""
    if kind == "word":
        return is_word(thing)
    if kind == "level":
        return is_level(thing)
    if kind == "signs":
        return is_signs(thing)
    if kind == "said":
        return is_said(thing)
    return is_value(thing)


def _fits_as_named(kind, thing):
    """Whether a thing is the KEY, the NAME, the NAMES that the kind asks for."""
    if kind in ("key", "parent"):
        return is_key(thing)
    if kind == "after":
        return is_name(thing)
    if kind == "names":
        return are_names(thing)
    if kind == "on":
        return are_names(thing) or is_key(thing)
    return is_name(thing) or is_key(thing)
