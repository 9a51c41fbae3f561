"""What is read from texts: WHATS, VERSIONS, DEEDS, BOOKS."""

from coeditry.books import is_book
from coeditry.errors import NoText
from coeditry.forms import FORMS, INNERS
from coeditry.tokens import read_one, read_share, words_of


def read_what(text, *, line=0):
    """The WHAT that the text writes; else NoText."""
    return _read_what(words_of(text), 0, line)


def read_version(text, *, line=0):
    """The VERSION that the text writes; else NoText."""
    if text == "-":
        return ()
    shares = []
    for at, word in enumerate(words_of(text)):
        share = read_share(word)
        if share == () or (at > 0 and share[0][0] <= shares[at - 1][0]):
            raise NoText(line, at)
        shares.extend(share)
    return tuple(shares)


def read_deed(text, *, line=0):
    """The DEED, by kind, that the text writes; else NoText."""
    words = words_of(text)
    key, count, knew = _read_things(words, 0, ("key", "number", "knew"), line)
    what = _read_what(words, 3, line)
    return (key[0], key[1], count, knew, what)


def read_book(text):
    """The BOOK that the text writes; else NoText."""
    rows = _lines_of(text)
    book = tuple([read_deed(row, line=line) for line, row in enumerate(rows)])
    if not is_book(book):
        raise NoText(len(rows), 0)
    return book


def _lines_of(text):
    """The lines of a text: one line end behind the last line makes none."""
    rows = text.split("\n")
    if rows[-1] == "":
        rows.pop()
    return rows


def _read_what(words, start, line):
    """The WHAT that all words from start on write."""
    word = _read_things(words, start, ("what",), line)[0]
    things = _read_things(words, start + 1, FORMS[word], line)
    end = start + 1 + len(things)
    if word == "suggest":
        doc, inner = things
        rest = _read_things(words, end, INNERS[inner], line)
        end = end + len(rest)
        things = (doc, (inner,) + rest)
    if end < len(words):
        raise NoText(line, end)
    return (word,) + things


def _read_things(words, start, kinds, line):
    """A tuple of the things, one of each kind, that the words from start on write."""
    things = []
    for at, kind in enumerate(kinds, start):
        if at >= len(words):
            raise NoText(line, len(words))
        read = read_one(kind, words[at])
        if read == ():
            raise NoText(line, at)
        things.extend(read)
    return tuple(things)
