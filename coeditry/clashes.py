"""Where FIELDS were set apart."""

from coeditry.deeds import key_of, knew_it, what_of, word_of
from coeditry.kinds import is_key
from coeditry.opened import ground_of_rows
from coeditry.rows import rows_of


def clashes(book, *, doc):
    """A rising tuple of (row, FIELD, the KEYS of the LAST ONES) for all that CLASH of ROWS; or NoKey(doc)."""
    works = ground_of_rows(book, doc).working()
    told = []
    for row, fields in rows_of(book, doc=doc):
        for field, value in fields:
            last = _last_of(works, row, field)
            if not all([what_of(deed)[4] == value for deed in last]):
                told.append((row, field, _keys_of(last)))
    return tuple(sorted(told))


def last_ones(book, row, field, *, doc):
    """The KEYS, rising, of the LAST ONES of any things as a row and a FIELD; or NoKey(doc)."""
    works = ground_of_rows(book, doc).working()
    # Only a KEY is compared, for ("ann", True) == ("ann", 1).
    if not is_key(row):
        return ()
    return _keys_of(_last_of(works, row, field))


def _last_of(works, row, field):
    """The "set" DEEDS, among those that WORK, of the row and the FIELD that no other such one knew."""
    sets = [deed for deed in works if word_of(deed) == "set" and what_of(deed)[2:4] == (row, field)]
    return [deed for deed in sets if not any([knew_it(other, key_of(deed)) for other in sets])]


def _keys_of(deeds):
    return tuple(sorted([key_of(deed) for deed in deeds]))
