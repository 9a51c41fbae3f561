"""The BOOKS by chance of tests/chance.py, told again by tests/beyond.py."""

from tests.beyond import Beyond
from tests.chance import HOUSES, a_house
from tests.naive import BOOKS, doc, key

HANDS = ("ann", "bob", "cy")

# Of each sort some, and some in which little STANDS.
WORLDS = {sort: [Beyond(book) for book in HOUSES[sort][:24]] for sort in sorted(HOUSES)}
ODD = [Beyond(book) for book in BOOKS[:12] + [()]]
ALL = [plain for sort in sorted(WORLDS) for plain in WORLDS[sort]] + ODD

# As large as a document may be.
LARGE = [Beyond(a_house(seed, sort, many=44)) for sort in sorted(HOUSES) for seed in range(900, 904)]


def alone(plain, of):
    """The BOOK of one document's DEEDS as if others were none of its DEEDS; a tuple that may be no BOOK."""
    return tuple(deed for deed in plain.book if doc(deed) == of)


def docs(plain, *sorts):
    return [of for of in plain.docs() if not sorts or plain.sort(of) in sorts]


def keys(plain):
    return [key(deed) for deed in plain.book]
