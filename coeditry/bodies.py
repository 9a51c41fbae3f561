"""What a body shows: things of a document, each with how it is shown."""

from coeditry.books import deed_at
from coeditry.clashes import clashes
from coeditry.deeds import what_of
from coeditry.living import living
from coeditry.looks import looks_in
from coeditry.opened import ground_in
from coeditry.rows import rows_of
from coeditry.trees import branches


def shown_in(book, doc):
    """The dict of how each living sign, row or node of the document is shown, by its NAME or KEY, in their order."""
    sort = ground_in(book, doc).doc_sort()
    if sort == "text":
        looks = looks_in(book, doc)
        return {name: looks.get(name, ()) for name in living(book, doc=doc)}
    if sort == "rows":
        return _shown_rows(book, doc)
    return {node: (parent, label) for node, parent, label in branches(book, doc=doc)}


def _shown_rows(book, doc):
    """The dict of the tuples of (FIELD, VALUE, the VALUES that CLASH) by the KEYS of the rows."""
    clashing = {}
    for row, field, keys in clashes(book, doc=doc):
        clashing[(row, field)] = tuple([what_of(deed_at(book, key))[4] for key in keys])
    shown = {}
    for row, fields in rows_of(book, doc=doc):
        shown[row] = tuple([(field, value, clashing.get((row, field), ())) for field, value in fields])
    return shown
