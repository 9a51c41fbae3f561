"""The form of each WHAT: its word, and the kinds of its things in their order."""

SORTS = ("text", "rows", "tree")

# "after" is a NAME or None, "parent" a KEY or None, "on" NAMES or a KEY, "at" a NAME, a KEY or None.
FORMS = {
    "open": ("sort",),
    "give": ("key", "word", "level"),
    "put": ("key", "after", "signs"),
    "cut": ("key", "names"),
    "look": ("key", "names", "word", "truth"),
    "row": ("key",),
    "set": ("key", "key", "word", "value"),
    "drop": ("key", "key"),
    "node": ("key", "parent", "word"),
    "move": ("key", "key", "parent"),
    "say": ("key", "on", "said"),
    "close": ("key", "key"),
    "suggest": ("key", "inner"),
    "take": ("key", "key"),
    "refuse": ("key", "key"),
    "mark": ("key", "at"),
    "undo": ("key", "key"),
    "redo": ("key", "key"),
}

# What may be suggested, whose document the "suggest" tells.
INNERS = {
    "put": ("after", "signs"),
    "cut": ("names",),
}

# The STEPS of a house but "all"; a "word" is a HAND.
STEPS = {
    "make": ("word", "what"),
    "send": ("word", "word"),
    "come": ("number",),
    "again": ("number",),
    "lose": ("number",),
}
