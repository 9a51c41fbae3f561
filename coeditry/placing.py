"""The ROW of a text, made as PLACING DEEDS come in any turn."""

from coeditry.coming import as_they_came
from coeditry.deeds import is_ahead, key_of
from coeditry.fitting import names_by, put_by
from coeditry.opened import ground_of_text
from coeditry.places import place_behind, places_of, placing_of


def row_by_skipping(book, *, doc, came=()):
    """The NAMES of the ROW of the text, its PLACING DEEDS coming as the KEYS of came tell; or NoKey."""
    ground = ground_of_text(book, doc)
    places = places_of(ground)
    sources = {key_of(placing): source for placing, source in placing_of(ground)}
    row = []
    waiting = []
    for deed in as_they_came([placing for placing, _ in placing_of(ground)], came):
        waiting.append(sources[key_of(deed)])
        _settle(places, row, waiting)
    return tuple(row)


def _settle(places, row, waiting):
    """Lets all come that wait no longer, of several the one that came first ahead."""
    source = _first_ready(row, waiting)
    while source is not None:
        waiting.remove(source)
        _come(places, row, source)
        source = _first_ready(row, waiting)


def _first_ready(row, waiting):
    """The first of those that wait whose after is in the ROW, None where there is none."""
    for source in waiting:
        after = put_by(source)[0]
        if after is None or after in row:
            return source
    return None


def _come(places, row, source):
    """Puts the signs into the ROW, behind all that are to be skipped."""
    names = names_by(source)
    placing = places[names[0]].placing
    at = place_behind(row, put_by(source)[0])
    while at < len(row) and is_ahead(placing, places[row[at]].placing):
        at += 1
    row[at:at] = names
