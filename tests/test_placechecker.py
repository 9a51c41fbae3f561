import random
import unittest

from coeditry.placechecker import lets_place
from tests.chance import PLAINS
from tests.naive import doc
from tests.samples import THINGS, Odd
from tests.story import Refusing, odd_names
from tests.test_texts import TextTest, names, no_texts


def way(plain, of, name):
    """The WAY of a sign."""
    told = []
    while name is not None:
        told.insert(0, name)
        name = plain.signs(of)[name][1]
    return tuple(told)


class LetTest(TextTest):
    def setUp(self):
        TextTest.setUp(self)
        self.one = self.put(None, "abc")
        self.two = self.put((self.one, 0), "x")
        self.three = self.put((self.one, 0), "yz")
        self.ways = {
            "a": names(self.one, 0), "b": names(self.one, 0, 1), "c": names(self.one, 0, 1, 2),
            "x": ((self.one, 0), (self.two, 0)), "y": ((self.one, 0), (self.three, 0)),
            "z": ((self.one, 0), (self.three, 0), (self.three, 1)),
        }
        # The ROW is a y z x b c.

    def name(self, sign):
        return self.ways[sign][-1]

    def refused(self, word, at, one, other, thing):
        book = self.story.book()
        self.no_paper(word, at, lets_place, book, self.name(one), self.name(other), thing, doc=self.of)

    def test_both_ways_about(self):
        book = self.story.book()
        for at, one in enumerate("ayzxbc"):
            for other_at, other in enumerate("ayzxbc"):
                if one != other:
                    paper = (self.ways[one], self.ways[other])
                    told = lets_place(book, self.name(one), self.name(other), paper, doc=self.of)
                    self.assertIs(told, at < other_at)
                    told = lets_place(thing=paper, other=self.name(other), doc=self.of, one=self.name(one), book=book)
                    self.assertIs(told, at < other_at)

    def test_of_dead_signs_too(self):
        self.cut((self.one, 0), (self.three, 0))
        self.turn("undo", self.two)
        self.test_both_ways_about()

    def test_by_the_place_of_a_take(self):
        left = self.suggest("put", (self.one, 0), "v")
        four = self.put((self.one, 0), "w")
        self.turn("take", left)
        paper = (((self.one, 0), (left, 0)), ((self.one, 0), (four, 0)))
        self.assertIs(lets_place(self.story.book(), (left, 0), (four, 0), paper, doc=self.of), True)
        paper = (paper[1], paper[0])
        self.assertIs(lets_place(self.story.book(), (four, 0), (left, 0), paper, doc=self.of), False)

    def test_shape(self):
        a, b = self.ways["a"], self.ways["b"]
        for thing in THINGS + [Odd(), (a,), (a, b, b), [a, b], (list(a), b), (a, list(b)), ((), b), (a, ()), (a, None),
                               (None, b), a, (a[0], b[0]), (a + (None,), b), (a, b + ("b",)), (a, ((self.one, True),)),
                               (a, (list(b[0]), b[1])), (a, b + (self.one,)), (a, b + ((list(self.one), 0),))]:
            self.refused("shape", -1, "a", "b", thing)

    def test_hangs(self):
        ways = self.ways
        zz = (("zz", 0), 0)
        for w in (0, 1):
            for j, wrong in (
                (0, (zz,)), (0, (self.name("b"),)), (0, (zz,) + ways["z"]), (1, (self.name("a"), zz)),
                (1, ways["a"] + ways["a"]), (1, ways["a"] + (self.name("c"),)), (2, ways["y"] + (self.name("x"),)),
                (2, ways["b"] + (self.name("z"),)), (3, ways["z"] + (self.name("a"),)), (0, (self.name("x"), zz)),
                (1, ways["a"] + ((self.one, 3),)), (2, ways["x"] + ((self.two, 1), zz)),
            ):
                paper = (wrong, ways["b"]) if w == 0 else (ways["a"], wrong)
                self.refused("hangs", (w, j), "a", "b", paper)

    def test_a_suggestion_that_was_not_taken(self):
        left = self.suggest("put", None, "v")
        self.refused("hangs", (1, 0), "a", "b", (self.ways["a"], ((left, 0),)))

    def test_last(self):
        ways = self.ways
        self.refused("last", 0, "a", "b", (ways["b"], ways["b"]))
        self.refused("last", 0, "a", "b", (ways["b"], ways["a"]))
        self.refused("last", 1, "a", "b", (ways["a"], ways["a"]))
        self.refused("last", 1, "a", "b", (ways["a"], ways["c"]))
        self.refused("last", 0, "z", "b", (ways["y"], ways["b"]))

    def test_which_goes_first(self):
        ways, zz = self.ways, (("zz", 0), 0)
        self.refused("last", 0, "a", "b", (ways["b"], (zz,)))
        self.refused("hangs", (0, 1), "a", "b", (ways["a"] + (zz, zz), (zz,)))
        self.refused("hangs", (0, 0), "a", "b", ((zz,), ways["a"]))
        self.refused("hangs", (1, 0), "a", "b", (ways["a"], (zz,)))
        self.refused("shape", -1, "a", "b", ((zz,), (None,)))

    def test_names_that_are_not_there(self):
        book = self.story.book()
        paper = (self.ways["a"], self.ways["b"])
        left = self.suggest("put", None, "v")
        gone = [(self.one, 3), (left, 0), (self.one, True), [self.one, 0], (list(self.one), 0)] + odd_names()
        for thing in gone:
            for handed in (paper, (), None):
                self.no_key(thing, lets_place, book, thing, self.name("b"), handed, doc=self.of)
                self.no_key(thing, lets_place, book, self.name("a"), thing, handed, doc=self.of)
                self.no_key(thing, lets_place, book, thing, ["gone"], handed, doc=self.of)

    def test_a_document_that_is_no_text(self):
        things = no_texts(self.story)
        paper = (self.ways["a"], self.ways["b"])
        for thing in things:
            for one in (self.name("a"), None):
                for handed in (paper, None):
                    self.no_key(thing, lets_place, self.story.book(), one, self.name("b"), handed, doc=thing)

    def test_the_document_by_its_name_alone(self):
        paper = (self.ways["a"], self.ways["b"])
        with self.assertRaises(TypeError):
            lets_place(self.story.book(), self.name("a"), self.name("b"), paper, self.of)

    def test_what_is_handed_in_stays(self):
        thing = [[self.name("a")], [self.name("b")]]
        self.refused("shape", -1, "a", "b", thing)
        self.assertEqual(thing, [[self.name("a")], [self.name("b")]])


class ManyTest(Refusing):
    def test_of_many_books(self):
        chance = random.Random(5)
        told = {True: 0, False: 0}
        for plain in PLAINS["text"]:
            of, row = ("ann", 0), plain.row(("ann", 0))
            for _ in range(min(12, len(row) - 1)):
                one, other = chance.sample(row, 2)
                paper = (way(plain, of, one), way(plain, of, other))
                due = row.index(one) < row.index(other)
                self.assertIs(lets_place(plain.book, one, other, paper, doc=of), due)
                alone = tuple(deed for deed in plain.book if doc(deed) == of)
                self.assertIs(lets_place(alone, one, other, paper, doc=of), due)
                told[due] += 1
        self.assertGreater(min(told.values()), 30)


if __name__ == "__main__":
    unittest.main()
