import unittest

from coeditry.holdchecker import lets_hold
from coeditry.holdpapers import hold_paper
from tests.naive import doc
from tests.samples import THINGS, Odd
from tests.story import Refusing, odd_keys, opened
from tests.test_texts import TextTest, names
from tests.worlds import ALL, LARGE, alone, keys


class CheckerTest(TextTest):
    def say(self, on, hand="ann"):
        return self.story.make(hand, ("say", self.of, on, "x"))

    def lets(self, one, many, *paper):
        book = self.story.book()
        self.same(lets_hold(book, one, paper), many)
        self.same(lets_hold(thing=paper, key=one, book=book), many)

    def refused(self, word, at, one, thing):
        self.no_paper(word, at, lets_hold, self.story.book(), one, thing)


class NamesTest(CheckerTest):
    def setUp(self):
        CheckerTest.setUp(self)
        self.one = self.put(None, "abcd")
        self.a, self.b, self.c, self.d = names(self.one, 0, 1, 2, 3)
        self.first = self.cut(self.b)
        self.then = self.cut(self.b, self.c, hand="bob")
        self.said = self.say((self.a, self.b, self.c))

    def test_let_by(self):
        self.lets(self.said, 1, (self.a, None), (self.b, self.first), (self.c, self.then))
        self.lets(self.said, 1, (self.a, None), (self.b, self.then), (self.c, self.then))
        self.turn("undo", self.then, "bob")
        self.lets(self.said, 2, (self.a, None), (self.b, self.first), (self.c, None))
        self.turn("undo", self.first)
        self.lets(self.said, 3, (self.a, None), (self.b, None), (self.c, None))
        self.turn("undo", self.one)
        self.lets(self.said, 0, (self.a, self.one), (self.b, self.one), (self.c, self.one))

    def test_shape(self):
        due = ((self.a, None), (self.b, self.first), (self.c, self.then))
        bent = [list(due), due[:2] + (list(due[2]),), due[:2] + ((self.c,),), due[:2] + ((self.c, self.then, None),),
                due[:2] + (None,), (None,), ((self.a, None, None),), ("ab",), Odd(), [], None]
        for thing in bent + [one for one in THINGS if not isinstance(one, tuple)]:
            self.refused("shape", -1, self.said, thing)

    def test_many(self):
        due = ((self.a, None), (self.b, self.first), (self.c, self.then))
        for thing in ((), due[:1], due[:2], due + ((self.d, None),), due + due, ((None, None),) * 4, ((1, 2),)):
            self.refused("many", -1, self.said, thing)

    def test_thing(self):
        a, b, c = (self.a, None), (self.b, self.first), (self.c, self.then)
        self.refused("thing", 0, self.said, (b, a, c))
        self.refused("thing", 0, self.said, (c, b, a))
        self.refused("thing", 1, self.said, (a, a, a))
        self.refused("thing", 1, self.said, (a, c, b))
        self.refused("thing", 2, self.said, (a, b, (self.d, None)))
        for odd in [None, self.one, list(self.c), (list(self.one), 2), (self.one, True), Odd(), (), "c"] + THINGS:
            self.refused("thing", 2, self.said, (a, b, (odd, self.then)))

    def test_true_is_no_1(self):
        (hand, n), k = self.b
        said = self.say((self.b,))
        self.assertEqual(k, 1)
        self.refused("thing", 0, said, ((((hand, n), True), self.first),))
        self.lets(said, 0, (self.b, self.first))

    def test_by(self):
        a, b, c = (self.a, None), (self.b, self.first), (self.c, self.then)
        self.refused("by", 0, self.said, ((self.a, self.first), b, c))
        self.refused("by", 0, self.said, ((self.a, self.one), b, c))
        self.refused("by", 0, self.said, ((self.a, False), b, c))
        self.refused("by", 0, self.said, ((self.a, ()), b, c))
        self.refused("by", 1, self.said, (a, (self.b, None), c))
        self.refused("by", 1, self.said, (a, (self.b, self.one), c))
        self.refused("by", 1, self.said, (a, (self.b, self.said), c))
        self.refused("by", 2, self.said, (a, b, (self.c, self.first)))
        for odd in [list(self.then), (self.then, 0), (self.then,), Odd(), ("zz", 0)] + THINGS:
            if odd != self.then:
                self.refused("by", 2, self.said, (a, b, (self.c, odd)))

    def test_which_goes_first(self):
        a, b = (self.a, None), (self.b, self.first)
        self.refused("shape", -1, self.said, ((self.b, None), None))
        self.refused("many", -1, self.said, ((self.b, None), (self.b, None)))
        self.refused("thing", 0, self.said, ((self.b, None), (self.b, None), (self.b, None)))
        self.refused("by", 0, self.said, ((self.a, 1), (self.a, 1), (self.a, 1)))
        self.refused("thing", 1, self.said, (a, (self.c, None), (self.c, None)))
        self.refused("by", 1, self.said, (a, (self.b, None), (self.b, None)))
        self.refused("thing", 2, self.said, (a, b, (self.b, None)))

    def test_keys_of_no_comment(self):
        out = self.say(((self.one, 9),))
        close = self.turn("close", self.said)
        undone = self.say((self.a,))
        self.turn("undo", undone)
        for thing in [self.of, self.one, out, close, undone, list(self.said), (self.said, 0), Odd()] + odd_keys():
            for handed in (((self.a, None),), (), None):
                self.no_key(thing, lets_hold, self.story.book(), thing, handed)
                self.no_key(thing, lets_hold, (), thing, handed)

    def test_what_is_handed_in_stays(self):
        thing = [[self.a, None], [self.b, self.first]]
        self.refused("shape", -1, self.said, thing)
        self.assertEqual(thing, [[self.a, None], [self.b, self.first]])


class OthersTest(CheckerTest):
    def test_on_a_row(self):
        self.story, self.of = opened("rows")
        row = self.story.make("ann", ("row", self.of))
        self.assertEqual(row, ("ann", 1))
        said = self.say(row)
        self.lets(said, 1, (row, None))
        self.refused("thing", 0, said, ((("ann", True), None),))
        self.refused("by", 0, said, ((row, row),))
        drop = self.story.make("ann", ("drop", self.of, row))
        self.lets(said, 0, (row, drop))
        self.refused("by", 0, said, ((row, None),))
        self.refused("by", 0, said, ((row, row),))
        self.turn("undo", row)
        self.lets(said, 0, (row, drop))
        self.lets(said, 0, (row, row))
        self.refused("by", 0, said, ((row, ("ann", True)),))
        self.refused("many", -1, said, ((row, row), (row, row)))

    def test_on_a_node(self):
        self.story, self.of = opened("tree")
        stem = self.story.make("ann", ("node", self.of, None, "stem"))
        leaf = self.story.make("ann", ("node", self.of, stem, "leaf"))
        said = self.say(leaf)
        self.lets(said, 1, (leaf, None))
        self.refused("thing", 0, said, ((stem, None),))
        self.turn("undo", stem)
        self.lets(said, 0, (leaf, stem))
        self.refused("by", 0, said, ((leaf, leaf),))
        self.refused("by", 0, said, ((leaf, None),))


class ManyTest(Refusing):
    def test_of_many_books(self):
        for plain in ALL + LARGE:
            for one in keys(plain):
                if not plain.is_said(one):
                    self.no_key(one, lets_hold, plain.book, one, ())
                    continue
                of = doc(plain.table[one])
                dead = [plain.gone_by(of, thing) for thing in plain.said_on(one)]
                paper = hold_paper(plain.book, one)
                due = sum(keys == () for keys in dead)
                self.same(lets_hold(plain.book, one, paper), due)
                self.same(lets_hold(alone(plain, of), one, paper), due)
                self.each_by(plain, one, paper, dead)

    def each_by(self, plain, one, paper, dead):
        """With each other KEY as by it is let by just where this is one by which the thing is dead."""
        for i, (thing, _) in enumerate(paper):
            for by in [None] + keys(plain):
                bent = paper[:i] + ((thing, by),) + paper[i + 1:]
                if by in dead[i] or (by is None and dead[i] == ()):
                    self.assertEqual(lets_hold(plain.book, one, bent), sum(keys == () for keys in dead))
                else:
                    self.no_paper("by", i, lets_hold, plain.book, one, bent)


if __name__ == "__main__":
    unittest.main()
