"""The checker of MARK PAPERS."""

from coeditry.deadby import is_dead_by
from coeditry.errors import NoPaper
from coeditry.kinds import are_pairs, is_name
from coeditry.leading import names_from_mark
from coeditry.living import kept_dead_in


def lets_mark(book, hand, thing, *, doc):
    """How many pairs the thing has, where it is a MARK PAPER of the HAND's MARK; else NoKey, then NoPaper."""
    names = names_from_mark(book, hand, doc)
    if not are_pairs(thing):
        raise NoPaper("shape", -1)
    keeping = kept_dead_in(book, doc)
    many = len(thing)
    for i, (name, by) in enumerate(thing):
        if i >= len(names) or not is_name(name) or name != names[i]:
            raise NoPaper("name", i)
        if not is_dead_by(by, keeping[name]):
            raise NoPaper("by", i)
    if many < len(names) and len(keeping[names[many]]) > 0:
        raise NoPaper("more", -1)
    return many
