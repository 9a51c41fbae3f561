"""The ROWS of a document, with their FIELDS."""

from coeditry.deeds import key_of, what_of, word_of
from coeditry.opened import ground_of_rows


def rows_of(book, *, doc):
    """A tuple of (row, its rising tuple of (FIELD, VALUE)) for each of ROWS, in ORDER; or NoKey(doc)."""
    works = ground_of_rows(book, doc).working()
    dropped = {what_of(deed)[2]: True for deed in works if word_of(deed) == "drop"}
    fields = {key_of(deed): {} for deed in works if word_of(deed) == "row" and key_of(deed) not in dropped}
    for deed in works:
        if word_of(deed) == "set":
            _, _, row, field, value = what_of(deed)
            if row in fields:
                fields[row][field] = value
    return tuple([(row, tuple(sorted(fields[row].items()))) for row in fields])
