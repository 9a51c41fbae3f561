"""BOOKS: DEEDS whose KEYS rise, each with all that it knew."""

from coeditry.deeds import count_of, doc_of, in_order, key_of, knew_it, knew_of, what_of
from coeditry.errors import NoDeed, NoKey
from coeditry.hands import many_of
from coeditry.kinds import is_key, rises
from coeditry.versions import has_all
from coeditry.whats import is_deed


def is_book(thing):
    """Whether a thing is a BOOK."""
    return _book_fault(thing) is None


def lets_book(thing):
    """True where the thing is a BOOK; else NoDeed."""
    fault = _book_fault(thing)
    if fault is not None:
        raise NoDeed(fault)
    return True


def deed_at(book, key):
    """The DEED of the KEY in the BOOK; NoKey where there is none."""
    deed = found_at(book, key)
    if deed is None:
        raise NoKey(key)
    return deed


def found_at(book, key):
    """The DEED of a KEY, any thing, in the BOOK; None where there is none."""
    # Only a KEY is compared, for ("ann", True) == ("ann", 1).
    if is_key(key):
        for deed in book:
            if key_of(deed) == key:
                return deed
    return None


def docs_of(book):
    """The KEYS of the documents of the BOOK, rising."""
    return tuple([key_of(deed) for deed in book if what_of(deed)[0] == "open"])


def deeds_of(book, doc):
    """The DEEDS of a document, any thing, in ORDER."""
    if not is_key(doc):
        return ()
    return in_order([deed for deed in book if doc_of(deed) == doc])


def both_books(one, other):
    """The BOOK that has all of both BOOKS; NoDeed where they have unlike DEEDS of one KEY."""
    table = table_of(one)
    for deed in other:
        if table.setdefault(key_of(deed), deed) != deed:
            raise NoDeed("other")
    return book_from(table)


def table_of(deeds):
    """The dict of the DEEDS by their KEYS."""
    return {key_of(deed): deed for deed in deeds}


def book_from(table):
    """The tuple of the DEEDS of a dict, by rising KEYS."""
    return tuple([table[key] for key in sorted(table)])


def next_count(deeds, doc):
    """The count of a DEED of the document that knew these DEEDS."""
    return max([count_of(deed) + 1 for deed in deeds if doc_of(deed) == doc], default=0)


def is_own(deed):
    """Whether the DEED knew just those of its own HAND that are ahead of it."""
    return many_of(knew_of(deed), deed[0]) == deed[1]


def knowing_fault(table, deed):
    """Why the DEED can't stand beside those of the table that it knew, all of them there: a word, or None."""
    known = [other for key, other in table.items() if knew_it(deed, key)]
    if not all([has_all(knew_of(deed), knew_of(other)) for other in known]):
        return "closed"
    if count_of(deed) != next_count(known, doc_of(deed)):
        return "count"
    return None


def deed_fault(table, deed):
    """Why the DEED can't stand beside those of the table: a word, or None."""
    if not is_own(deed):
        return "own"
    if not all([_has_first(table, hand, many) for hand, many in knew_of(deed)]):
        return "lacks"
    return knowing_fault(table, deed)


def _book_fault(thing):
    """Why a thing is no BOOK: a word, or None where it is one."""
    if not isinstance(thing, tuple) or not all([is_deed(one) for one in thing]):
        return "shape"
    if not rises([key_of(deed) for deed in thing]):
        return "rising"
    table = table_of(thing)
    for deed in thing:
        fault = deed_fault(table, deed)
        if fault is not None:
            return fault
    return None


def _has_first(table, hand, many):
    """Whether the table has the first so many DEEDS of the HAND."""
    # It ends at the first that lacks, for many may be more than can be gone through.
    n = 0
    while n < many and (hand, n) in table:
        n += 1
    return n == many
