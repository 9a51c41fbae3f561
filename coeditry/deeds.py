"""What a DEED tells of itself, and its place in ORDER."""

from coeditry.hands import many_of


def key_of(deed):
    """The KEY of the DEED."""
    return (deed[0], deed[1])


def count_of(deed):
    """The count of the DEED."""
    return deed[2]


def knew_of(deed):
    """The VERSION that the DEED knew."""
    return deed[3]


def what_of(deed):
    """The WHAT of the DEED."""
    return deed[4]


def word_of(deed):
    """The word of the DEED's WHAT."""
    return deed[4][0]


def doc_named(what, key):
    """The document of the DEED of a KEY that does the WHAT."""
    if what[0] == "open":
        return key
    return what[1]


def doc_of(deed):
    """The KEY of the DEED's document."""
    return doc_named(what_of(deed), key_of(deed))


def place_of(deed):
    """The DEED's place in ORDER."""
    return (count_of(deed), deed[0])


def is_ahead(one, other):
    """Whether the DEED one is ahead of the DEED other, of one document, in ORDER."""
    return place_of(one) < place_of(other)


def in_order(deeds):
    """The tuple of the DEEDS, of one document, in ORDER."""
    return tuple(sorted(deeds, key=place_of))


def knew_it(deed, key):
    """Whether the DEED knew the DEED of the KEY."""
    return key[1] < many_of(knew_of(deed), key[0])
