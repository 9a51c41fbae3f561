"""A text BESIDE its open SUGGESTIONS."""

from coeditry.living import signs_of
from coeditry.suggestions import suggestions


def beside(book, *, doc):
    """The entries of the text, of its living signs and of its open SUGGESTIONS of puts; or NoKey(doc)."""
    left = [(key, inner) for key, inner, word in suggestions(book, doc=doc) if word == "open"]
    puts = _puts_by_after(left)
    cuts = _cuts_by_name(left)
    told = puts.get(None, [])[::-1]
    for name, sign, lives in signs_of(book, doc=doc):
        if lives:
            told.append(("sign", name, sign, tuple(sorted(cuts.get(name, [])))))
            told.extend(puts.get(name, [])[::-1])
    return tuple(told)


def _puts_by_after(left):
    """The dict of lists of the entries of suggested puts, in ORDER, by what they are put behind."""
    puts = {}
    for key, inner in left:
        if inner[0] == "put":
            _, after, signs = inner
            puts.setdefault(after, []).append(("put", key, signs))
    return puts


def _cuts_by_name(left):
    """The dict of lists of the KEYS of suggested cuts by each NAME that they have."""
    cuts = {}
    for key, inner in left:
        if inner[0] == "cut":
            for name in inner[1]:
                cuts.setdefault(name, []).append(key)
    return cuts
