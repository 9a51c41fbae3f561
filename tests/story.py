"""BOOKS told by hand, DEED by DEED; and what a refusal must be."""

import unittest

from coeditry.errors import CoeditError, HouseError, NoDeed, NoKey, NoPaper, PaperError, TextError
from tests.naive import key, knew, make
from tests.samples import THINGS, Odd, like


class Story:
    """DEEDS as HANDS make them, each knowing all ahead of it, or just some."""

    def __init__(self):
        self.table = {}

    def make(self, hand, what, knew_of=None):
        """The KEY of one more DEED: it knew all, or its HAND's own and these KEYS, with all that they knew."""
        known = set(self.table)
        if knew_of is not None:
            known = {one for one in known if one[0] == hand} | set(knew_of)
            for one in list(known):
                known |= knew(self.table[one])
        deed = make([self.table[one] for one in sorted(known)], hand, what)
        self.table[key(deed)] = deed
        return key(deed)

    def deed(self, one):
        return self.table[one]

    def book(self):
        return tuple(self.table[one] for one in sorted(self.table))


def opened(sort, **levels):
    """A Story in which ann opened a document ("ann", 0), and gave these LEVELS."""
    story = Story()
    doc = story.make("ann", ("open", sort))
    for hand in sorted(levels):
        story.make("ann", ("give", doc, hand, levels[hand]))
    return story, doc


def odd_keys():
    """Things that are no KEYS of DEEDS of any BOOK of ann's, bob's, cy's."""
    odd = [("ann", True), ("ann", False), ["ann", 0], ("ann", 0, 0), ("ann",), ("zz", 0), ("ann", 10 ** 199), "ann",
           None, 0, True, False, (), [], ("ann", "0"), (("ann", 0), 0), [["ann", 0]], ("ann", [0]), Odd(), ("ann", -1)]
    return odd + [thing for thing in THINGS if not (isinstance(thing, tuple) and thing[:1] == ("ann",))]


def odd_names():
    """Things that are no NAMES of signs of any BOOK of ann's, bob's, cy's."""
    odd = [(("ann", 0), 0), (("ann", 1), True), (("ann", True), 0), (["ann", 1], 0), [("ann", 1), 0], (("zz", 0), 0),
           (("ann", 1), 10 ** 199), ("ann", 1), None, 0, "", (), [], (("ann", 1),), (("ann", 1), 0, 0), Odd(), True]
    return odd + [thing for thing in THINGS if not like(thing, (("ann", 1), 0))]


class Refusing(unittest.TestCase):
    """Tests that look at what is refused."""

    def caught(self, error, family, call, handed, named):
        with self.assertRaises(CoeditError) as caught:
            call(*handed, **named)
        told = caught.exception
        self.assertIs(type(told), error)
        self.assertIsInstance(told, family)
        for other in {PaperError, HouseError, TextError} - {family}:
            self.assertNotIsInstance(told, other)
        return told

    def no_key(self, thing, call, /, *handed, **named):
        """Refused with NoKey of the very thing."""
        self.assertIs(self.caught(NoKey, HouseError, call, handed, named).key, thing)

    def no_key_like(self, thing, call, /, *handed, **named):
        """Refused with NoKey of a KEY that the program tells itself."""
        self.assertTrue(like(self.caught(NoKey, HouseError, call, handed, named).key, thing))

    def no_paper(self, word, at, call, /, *handed, **named):
        told = self.caught(NoPaper, PaperError, call, handed, named)
        self.assertTrue(like((told.word, told.at), (word, at)), (told.word, told.at, word, at))

    def no_deed(self, word, call, /, *handed, **named):
        self.assertEqual(self.caught(NoDeed, PaperError, call, handed, named).word, word)

    def same(self, told, due, /, *why):
        """Told just so, kinds and truths too."""
        self.assertTrue(like(told, due), (told, due) + why)
