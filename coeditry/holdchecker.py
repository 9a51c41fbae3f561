"""The checker of HOLD PAPERS."""

from coeditry.comments import comment_at
from coeditry.deadby import dead_by, is_dead_by
from coeditry.deeds import doc_of
from coeditry.errors import NoPaper
from coeditry.kinds import are_pairs, is_key, is_name
from coeditry.naming import things_of


def lets_hold(book, key, thing):
    """How many things are there, where the thing is a HOLD PAPER of the COMMENT; else NoKey, then NoPaper."""
    deed = comment_at(book, key)
    due = things_of(deed)
    if not are_pairs(thing):
        raise NoPaper("shape", -1)
    if len(thing) != len(due):
        raise NoPaper("many", -1)
    many = 0
    for i, (one, by) in enumerate(thing):
        if not _is_same(one, due[i]):
            raise NoPaper("thing", i)
        keys = dead_by(book, due[i], doc=doc_of(deed))
        if len(keys) == 0 and by is None:
            many += 1
        elif not is_dead_by(by, keys):
            raise NoPaper("by", i)
    return many


def _is_same(thing, named):
    """Whether any thing is the NAME or the KEY that is named."""
    # Only a NAME or a KEY is compared, for ("ann", True) == ("ann", 1).
    return (is_name(thing) or is_key(thing)) and thing == named
