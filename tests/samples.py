"""Things of all kinds, and deeds, that several tests look at."""

ANN0 = ("ann", 0)
ANN1 = ("ann", 1)
BOB0 = ("bob", 0)
NAME0 = (ANN1, 0)
NAME1 = (ANN1, 1)

# One WHAT of each word and form, each with what [88] writes and the THINGS of [25].
WHATS = [
    (("open", "text"), "open text", ()),
    (("open", "rows"), "open rows", ()),
    (("open", "tree"), "open tree", ()),
    (("give", ANN0, "bob", "none"), "give ann.0 bob none", ()),
    (("give", ANN0, "cy", "suggest"), "give ann.0 cy suggest", ()),
    (("put", ANN0, None, "ab"), "put ann.0 - 'ab", ()),
    (("put", ANN0, NAME1, "a b"), "put ann.0 ann.1.1 'a b", (NAME1,)),
    (("put", ANN0, None, "'-' 7"), "put ann.0 - ''-' 7", ()),
    (("put", ANN0, None, " "), "put ann.0 - ' ", ()),
    (("put", ANN0, None, " 'x' - "), "put ann.0 - ' 'x' - ", ()),
    (("put", ANN0, None, "abcdefghijkl"), "put ann.0 - 'abcdefghijkl", ()),
    (("cut", ANN0, (NAME0,)), "cut ann.0 ann.1.0", (NAME0,)),
    (("cut", ANN0, (NAME0, NAME1)), "cut ann.0 ann.1.0,ann.1.1", (NAME0, NAME1)),
    (("cut", ANN0, (NAME1, (BOB0, 0))), "cut ann.0 ann.1.1,bob.0.0", (NAME1, (BOB0, 0))),
    (("look", ANN0, (NAME0, NAME1), "bold", True), "look ann.0 ann.1.0,ann.1.1 bold +", (NAME0, NAME1)),
    (("look", ANN0, (NAME0,), "bold", False), "look ann.0 ann.1.0 bold /", (NAME0,)),
    (("row", ANN0), "row ann.0", ()),
    (("set", ANN0, ANN1, "cost", 7), "set ann.0 ann.1 cost 7", (ANN1,)),
    (("set", ANN0, ANN1, "cost", 0), "set ann.0 ann.1 cost 0", (ANN1,)),
    (("set", ANN0, ANN1, "cost", -7), "set ann.0 ann.1 cost -7", (ANN1,)),
    (("set", ANN0, ANN1, "cost", 999999999999), "set ann.0 ann.1 cost 999999999999", (ANN1,)),
    (("set", ANN0, ANN1, "cost", -999999999999), "set ann.0 ann.1 cost -999999999999", (ANN1,)),
    (("set", ANN0, ANN1, "cost", "7"), "set ann.0 ann.1 cost '7", (ANN1,)),
    (("set", ANN0, ANN1, "cost", "-"), "set ann.0 ann.1 cost '-", (ANN1,)),
    (("set", ANN0, ANN1, "cost", "a  b"), "set ann.0 ann.1 cost 'a  b", (ANN1,)),
    (("drop", ANN0, ANN1), "drop ann.0 ann.1", (ANN1,)),
    (("node", ANN0, None, "leaf"), "node ann.0 - leaf", ()),
    (("node", ANN0, ANN1, "leaf"), "node ann.0 ann.1 leaf", (ANN1,)),
    (("move", ANN0, ANN1, None), "move ann.0 ann.1 -", (ANN1,)),
    (("move", ANN0, ANN1, BOB0), "move ann.0 ann.1 bob.0", (ANN1, BOB0)),
    (("say", ANN0, (NAME0, NAME1), "so it is"), "say ann.0 ann.1.0,ann.1.1 'so it is", (NAME0, NAME1)),
    (("say", ANN0, (NAME0,), "s"), "say ann.0 ann.1.0 's", (NAME0,)),
    (("say", ANN0, ANN1, "x" * 40), "say ann.0 ann.1 '" + "x" * 40, (ANN1,)),
    (("close", ANN0, ANN1), "close ann.0 ann.1", (ANN1,)),
    (("suggest", ANN0, ("put", None, "x")), "suggest ann.0 put - 'x", ()),
    (("suggest", ANN0, ("put", NAME0, "x y")), "suggest ann.0 put ann.1.0 'x y", (NAME0,)),
    (("suggest", ANN0, ("cut", (NAME0, NAME1))), "suggest ann.0 cut ann.1.0,ann.1.1", (NAME0, NAME1)),
    (("take", ANN0, ANN1), "take ann.0 ann.1", (ANN1,)),
    (("refuse", ANN0, ANN1), "refuse ann.0 ann.1", (ANN1,)),
    (("mark", ANN0, None), "mark ann.0 -", ()),
    (("mark", ANN0, ANN1), "mark ann.0 ann.1", (ANN1,)),
    (("mark", ANN0, NAME1), "mark ann.0 ann.1.1", (NAME1,)),
    (("undo", ANN0, ANN1), "undo ann.0 ann.1", (ANN1,)),
    (("redo", ANN0, ANN1), "redo ann.0 ann.1", (ANN1,)),
]


class Odd:
    """A thing of no kind."""


# Things of all kinds; none is written twice, so that each is known by its repr.
THINGS = [
    True, False, None, 0, 1, 2, -1, -7, 10 ** 12, 10 ** 199, -(10 ** 199),
    "", "a", "ann", "abcdefgh", "abcdefghi", "abcdefghijkl", "abcdefghijklm", "x" * 40, "x" * 41,
    "Ann", "an3", "a b", "ann ", "a\n", "\n", " ", "~", "'", "-", "a%", "%", "7", "\t", "\x7f", "\u00e9", "ab\u00b2",
    "none", "see", "tell", "suggest", "change", "own", "text", "rows", "tree", "open",
    (), [], ("ann",), ["ann"], ("ann", 0), ["ann", 0], (0, "ann"), ("ann", 1), ("ann", True), ("ann", False),
    ("ann", -1), ("ann", 0, 0), ("Ann", 0), ("", 0), ("abcdefghi", 0), ("ann", "0"), ("ann", None), ("ann", 10 ** 199),
    (True, 1), (("ann", 0), 0), [("ann", 0), 0], (["ann", 0], 0), (("ann", 0), True), (("ann", True), 0),
    (("ann", 0), -1), (0, ("ann", 0)), (("ann", 0),), (("ann", 0), 0, 0),
    ((("ann", 0), 0),), [(("ann", 0), 0)], ([("ann", 0), 0],), ((["ann", 0], 0),), ((("ann", 0), True),),
    ((("ann", 0), 0), (("ann", 0), 1)), ((("ann", 0), 1), (("ann", 0), 0)), ((("ann", 0), 0), (("ann", 0), 0)),
    ((("ann", 9), 0), (("bob", 0), 0)), ((("ann", 0), 0), ("ann", 0)), ((("ann", 10), 0), (("ann", 9), 0)),
    (("ann", 1),), [("ann", 1)], (["ann", 1],), (("ann", 1), ("bob", 2)), (("bob", 2), ("ann", 1)),
    (("ann", 1), ("ann", 2)), (("ann", 1), ("ann", 1)), (("ann", 0), ("bob", 1)), (("ann", True),),
    (("ann", 10 ** 199),), (("ann", 1), ("bob", 2), ("cy", 3)), ("ann", 1, 2), ((),), ([],), ("none",), ["own"],
    ((((("ann",),),),),), [[[[0]]]],
]


def like(one, other):
    """Whether two things are the same, True no 1."""
    return repr(one) == repr(other)


def deed(hand, n, count, knew, what):
    return (hand, n, count, knew, what)


# A text that ann opens and gives to bob; both put at once; bob cuts; ann opens rows.
BOOK = (
    ("ann", 0, 0, (), ("open", "text")),
    ("ann", 1, 1, (("ann", 1),), ("give", ANN0, "bob", "change")),
    ("ann", 2, 2, (("ann", 2),), ("put", ANN0, None, "ab")),
    ("ann", 3, 0, (("ann", 3), ("bob", 1)), ("open", "rows")),
    ("bob", 0, 2, (("ann", 2),), ("put", ANN0, None, "c")),
    ("bob", 1, 3, (("ann", 3), ("bob", 1)), ("cut", ANN0, ((("ann", 2), 0),))),
)
