"""The LEVEL that each word of a WHAT needs."""

_NEEDS = {
    "mark": "see",
    "say": "tell",
    "close": "tell",
    "suggest": "suggest",
    "give": "own",
}


def needs(word):
    """The NEED of a word but "open", "undo", "redo": a LEVEL."""
    return _NEEDS.get(word, "change")
