import unittest

from coeditry.deadby import dead_by
from coeditry.living import kept_dead
from coeditry.rows import rows_of
from coeditry.trees import is_there
from tests.samples import Odd
from tests.story import Refusing, Story, odd_keys, odd_names, opened
from tests.test_texts import TextTest, names
from tests.test_trees import TreeTest
from tests.worlds import ALL, LARGE, alone, docs, keys


class Dying:
    def dead(self, thing, *due):
        book = self.story.book()
        self.same(dead_by(book, thing, doc=self.of), due)
        self.same(dead_by(thing=thing, doc=self.of, book=book), due)

    def refuses(self, things):
        for thing in things:
            self.no_key(thing, dead_by, self.story.book(), thing, doc=self.of)


class NamesTest(Dying, TextTest):
    def setUp(self):
        TextTest.setUp(self)
        self.one = self.put(None, "abc")

    def test_what_lives(self):
        for name in names(self.one, 0, 1, 2):
            self.dead(name)

    def test_by_a_put_undone(self):
        self.turn("undo", self.one)
        for name in names(self.one, 0, 1, 2):
            self.dead(name, self.one)
        self.turn("redo", self.one)
        self.dead((self.one, 0))

    def test_by_cuts(self):
        first = self.cut((self.one, 0))
        then = self.cut((self.one, 0), (self.one, 1), hand="bob")
        self.dead((self.one, 0), first, then)
        self.dead((self.one, 1), then)
        self.dead((self.one, 2))
        self.turn("undo", first)
        self.dead((self.one, 0), then)
        self.turn("undo", self.one)
        self.dead((self.one, 0), self.one, then)

    def test_by_taken_cuts(self):
        left = self.suggest("cut", names(self.one, 0, 1), hand="bob")
        self.dead((self.one, 0))
        self.turn("take", left)
        self.dead((self.one, 0), left)
        self.dead((self.one, 2))
        self.turn("refuse", left)
        self.dead((self.one, 0), left)

    def test_by_a_suggest_undone(self):
        two = self.suggest("put", (self.one, 0), "x")
        self.refuses([(two, 0)])
        self.turn("undo", two)
        self.turn("take", two, "bob")
        self.dead((two, 0), two)

    def test_of_no_sign_there(self):
        row = self.story.make("ann", ("row", self.of))
        left = self.suggest("put", None, "x")
        out = self.put(None, "x", "cy")
        other = self.story.make("ann", ("open", "text"))
        apart = self.story.make("ann", ("put", other, None, "z"))
        self.refuses([(self.one, 3), (left, 0), (out, 0), (apart, 0), self.one, row, self.of, (self.one, True),
                      ((self.one[0], True), 0), [self.one, 0], names(self.one, 0), Odd()] + odd_names() + odd_keys())

    def test_a_document_that_is_none(self):
        for thing in [self.one, ("zz", 0), ["ann", 0]] + odd_keys():
            for of in ((self.one, 0), None, self.one):
                self.no_key(thing, dead_by, self.story.book(), of, doc=thing)
                self.no_key(thing, dead_by, (), of, doc=thing)

    def test_the_document_by_its_name_alone(self):
        with self.assertRaises(TypeError):
            dead_by(self.story.book(), (self.one, 0), self.of)


class RowsTest(Dying, Refusing):
    def setUp(self):
        self.story, self.of = opened("rows", bob="change")
        self.row = self.story.make("ann", ("row", self.of))

    def make(self, hand, *what):
        return self.story.make(hand, (what[0], self.of) + what[1:])

    def test_a_row_that_is_there(self):
        self.dead(self.row)

    def test_undone_dropped_both(self):
        first = self.make("ann", "drop", self.row)
        self.dead(self.row, first)
        then = self.make("bob", "drop", self.row)
        self.dead(self.row, first, then)
        self.make("ann", "undo", self.row)
        self.dead(self.row, self.row, first, then)
        self.make("ann", "undo", first)
        self.dead(self.row, self.row, then)
        self.make("bob", "undo", then)
        self.dead(self.row, self.row)
        self.make("ann", "redo", self.row)
        self.dead(self.row)

    def test_a_drop_that_does_not_stand_and_one_of_another_row(self):
        other = self.make("ann", "row")
        self.make("cy", "drop", self.row)
        drop = self.make("ann", "drop", other)
        self.dead(self.row)
        self.dead(other, drop)

    def test_of_no_row(self):
        out = self.make("cy", "row")
        put = self.make("ann", "set", self.row, "cost", 1)
        other = self.story.make("ann", ("open", "rows"))
        apart = self.story.make("ann", ("row", other))
        self.refuses([out, put, self.of, other, apart, (self.row, 0), list(self.row), ("ann", True), Odd()] + odd_keys()
                     + odd_names())


class NodesTest(Dying, TreeTest):
    def test_there_undone_and_below(self):
        one = self.node(None, "one")
        two = self.node(one, "two")
        three = self.node(two, "three")
        self.dead(three)
        self.turn("undo", one)
        self.dead(one, one)
        self.dead(two, one)
        self.dead(three, one)
        # What is undone is BENEATH nothing, so it, and what lies below it, is dead by it alone.
        self.turn("undo", three)
        self.dead(three, three)
        self.turn("undo", two)
        self.dead(two, two)
        self.dead(three, three)
        self.turn("redo", three)
        self.dead(three, two)
        self.turn("redo", one)
        self.turn("redo", two)
        self.dead(three)

    def test_moved_away_from_there(self):
        one, two = self.node(None, "one"), self.node(None, "two")
        three = self.node(one, "three")
        self.turn("undo", one)
        self.dead(three, one)
        move = self.move(three, two)
        self.dead(three)
        self.turn("undo", two)
        self.dead(three, two)
        self.turn("undo", move)
        self.dead(three, one)

    def test_an_undone_node_that_is_moved(self):
        one, two = self.node(None, "one"), self.node(None, "two")
        self.turn("undo", two)
        self.turn("undo", one)
        self.move(two, one)
        self.dead(two, one, two)
        self.turn("redo", two)
        self.dead(two, one)

    def test_of_no_node(self):
        one = self.node(None, "one")
        move = self.move(one, one)
        out = self.node(None, "out", "cy")
        other = self.story.make("ann", ("open", "tree"))
        apart = self.story.make("ann", ("node", other, None, "z"))
        self.refuses([move, out, apart, self.of, (one, 0), list(one), ("ann", True), Odd()] + odd_keys() + odd_names())


class ManyTest(Refusing):
    def test_of_many_books(self):
        dead = {}
        for plain in ALL + LARGE:
            for of in plain.docs():
                sort = plain.sort(of)
                things = list(plain.row(of)) + [one[:2] for one in plain.standing(of) if one[4][0] in ("row", "node")]
                for thing in things:
                    due = plain.gone_by(of, thing)
                    self.same(dead_by(plain.book, thing, doc=of), due)
                    self.same(dead_by(alone(plain, of), thing, doc=of), due)
                    dead[sort, min(len(due), 2)] = dead.get((sort, min(len(due), 2)), 0) + 1
                    self.just_what_is_not_there(plain, of, thing, due)
                for one in keys(plain) + [(one, k) for one in keys(plain) for k in range(3)]:
                    if one not in things:
                        self.no_key(one, dead_by, plain.book, one, doc=of)
        self.assertEqual(len(dead), 9, dead)

    def just_what_is_not_there(self, plain, of, thing, due):
        if plain.sort(of) == "text":
            self.same(kept_dead(plain.book, thing, doc=of), due)
        elif plain.sort(of) == "rows":
            self.assertEqual(due == (), thing in [row for row, _ in rows_of(plain.book, doc=of)])
        else:
            self.assertEqual(due == (), is_there(plain.book, thing, doc=of))

    def test_of_an_empty_document(self):
        for sort in ("text", "rows", "tree"):
            story = Story()
            of = story.make("ann", ("open", sort))
            for thing in [of, (of, 0)] + odd_keys():
                self.no_key(thing, dead_by, story.book(), thing, doc=of)


if __name__ == "__main__":
    unittest.main()
