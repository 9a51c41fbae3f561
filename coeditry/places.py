"""The signs of a text, each with what it HANGS ON, and their ROW."""

from coeditry.deeds import what_of, word_of
from coeditry.errors import NoKey
from coeditry.fitting import names_by, put_by
from coeditry.kinds import is_name
from coeditry.opened import ground_of_text


class Place:
    """A sign of the ROW: what it HANGS ON, and the PLACING DEED by which it came."""

    def __init__(self, sign, hung, placing):
        self.sign = sign
        self.hung = hung
        self.placing = placing


def placing_of(ground):
    """The PLACING DEEDS in ORDER, each as (it, the "put" or "suggest" whose SIGNS come by it)."""
    found = []
    for deed in ground.stood():
        if word_of(deed) == "put":
            found.append((deed, deed))
        elif word_of(deed) == "take":
            source = ground.deed(what_of(deed)[2])
            if put_by(source) is not None:
                found.append((deed, source))
    return found


def places_of(ground):
    """The dict of the Places of the ROW, by their NAMES."""
    places = {}
    for placing, source in placing_of(ground):
        hung, signs = put_by(source)
        for name, sign in zip(names_by(source), signs):
            places[name] = Place(sign, hung, placing)
            hung = name
    return places


def places_in(book, doc):
    """The dict of the Places of a text, any thing; or NoKey(doc)."""
    return places_of(ground_of_text(book, doc))


def place_at(places, name):
    """The Place of a NAME, any thing; NoKey where the ROW has none such."""
    if not is_name(name) or name not in places:
        raise NoKey(name)
    return places[name]


def row_from(ground):
    """The list of the NAMES of the ROW."""
    row = []
    for _, source in placing_of(ground):
        at = place_behind(row, put_by(source)[0])
        row[at:at] = names_by(source)
    return row


def place_behind(row, after):
    """The number straight behind the NAME after in the ROW, 0 for None."""
    if after is None:
        return 0
    return row.index(after) + 1
