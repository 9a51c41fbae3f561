import unittest

from coeditry.comments import held
from coeditry.holdpapers import hold_paper
from tests.samples import Odd
from tests.story import Refusing, odd_keys, opened
from tests.test_texts import TextTest, names
from tests.worlds import ALL, LARGE, alone, keys
from tests.naive import doc


class PaperTest(TextTest):
    def say(self, on, hand="ann"):
        return self.story.make(hand, ("say", self.of, on, "x"))

    def paper(self, one, *due):
        book = self.story.book()
        self.same(hold_paper(book, one), due)
        self.same(hold_paper(key=one, book=book), due)


class NamesTest(PaperTest):
    def setUp(self):
        PaperTest.setUp(self)
        self.one = self.put(None, "abc")

    def test_all_there(self):
        said = self.say(names(self.one, 0, 2))
        self.paper(said, ((self.one, 0), None), ((self.one, 2), None))

    def test_some_dead(self):
        said = self.say(names(self.one, 0, 1, 2))
        cut = self.cut((self.one, 1))
        self.paper(said, ((self.one, 0), None), ((self.one, 1), cut), ((self.one, 2), None))
        self.turn("undo", cut)
        self.paper(said, *[(name, None) for name in names(self.one, 0, 1, 2)])
        self.turn("undo", self.one)
        self.paper(said, *[(name, self.one) for name in names(self.one, 0, 1, 2)])

    def test_by_any_of_several(self):
        said = self.say(names(self.one, 0))
        cuts = [self.cut((self.one, 0)), self.cut((self.one, 0), hand="bob")]
        told = hold_paper(self.story.book(), said)
        self.assertIn(told, [(((self.one, 0), cut),) for cut in cuts])

    def test_rising_not_by_the_row(self):
        two = self.put(None, "x")
        said = self.say(((self.one, 0), (two, 0)))
        self.assertLess(self.one, two)
        self.paper(said, ((self.one, 0), None), ((two, 0), None))

    def test_keys_of_no_comment(self):
        said = self.say(names(self.one, 0))
        out = self.say(names(self.one, 9))
        close = self.turn("close", said)
        undone = self.say(names(self.one, 0))
        self.turn("undo", undone)
        for thing in [self.of, self.one, out, close, undone, list(said), (said, 0), Odd()] + odd_keys():
            self.no_key(thing, hold_paper, self.story.book(), thing)
            self.no_key(thing, hold_paper, (), thing)


class OthersTest(PaperTest):
    def test_on_a_row(self):
        self.story, self.of = opened("rows", bob="tell")
        row = self.story.make("ann", ("row", self.of))
        said = self.say(row, "bob")
        self.paper(said, (row, None))
        drop = self.story.make("ann", ("drop", self.of, row))
        self.paper(said, (row, drop))
        self.turn("undo", drop)
        self.turn("undo", row)
        self.paper(said, (row, row))

    def test_on_a_node(self):
        self.story, self.of = opened("tree")
        stem = self.story.make("ann", ("node", self.of, None, "stem"))
        leaf = self.story.make("ann", ("node", self.of, stem, "leaf"))
        said = self.say(leaf)
        self.paper(said, (leaf, None))
        self.turn("undo", stem)
        self.paper(said, (leaf, stem))
        self.turn("undo", leaf)
        self.paper(said, (leaf, leaf))


class ManyTest(Refusing):
    def test_of_many_books(self):
        many = {}
        for plain in ALL + LARGE:
            for one in keys(plain):
                if not plain.is_said(one):
                    self.no_key(one, hold_paper, plain.book, one)
                    continue
                of = doc(plain.table[one])
                told = hold_paper(plain.book, one)
                self.assertIs(type(told), tuple)
                self.same([thing for thing, _ in told], plain.said_on(one))
                for thing, by in told:
                    dead = plain.gone_by(of, thing)
                    self.assertTrue(by in dead if dead else by is None)
                    many[plain.sort(of), by is None] = many.get((plain.sort(of), by is None), 0) + 1
                there = [thing for thing, by in told if by is None]
                word, what, _ = held(plain.book, one)
                self.assertEqual(word, "holds" if there else "was")
                if there and plain.sort(of) == "text":
                    self.assertEqual(sorted(what), there)
                self.same(hold_paper(alone(plain, of), one), told)
        self.assertEqual(len(many), 6, many)


if __name__ == "__main__":
    unittest.main()
