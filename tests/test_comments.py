import unittest

from coeditry.comments import comments, held
from tests.chance import ALL, PLAINS
from tests.naive import BOOKS, doc, key
from tests.plain import Plain
from tests.samples import Odd
from tests.story import Refusing, Story, odd_keys, opened
from tests.test_texts import TextTest, names


class SayingTest(TextTest):
    def say(self, on, words, hand="ann"):
        return self.story.make(hand, ("say", self.of, on, words))

    def told(self, *due):
        book = self.story.book()
        self.same(comments(book, doc=self.of), due)
        self.same(comments(doc=self.of, book=book), due)
        for one, _, _ in due:
            held(book, one)

    def holds(self, one, word, what, text):
        book = self.story.book()
        self.same(held(book, one), (word, what, text))
        self.same(held(key=one, book=book), (word, what, text))


class CommentsTest(SayingTest):
    def setUp(self):
        SayingTest.setUp(self)
        self.one = self.put(None, "abc")

    def test_none(self):
        self.told()

    def test_in_order_not_by_keys(self):
        bobs = self.story.make("bob", ("say", self.of, names(self.one, 0), "first"), [self.one])
        anns = self.say(names(self.one, 1), "then")
        self.assertLess(anns, bobs)
        self.told((bobs, "first", False), (anns, "then", False))

    def test_closed(self):
        one, two = self.say(names(self.one, 0), "x"), self.say(names(self.one, 0), "y")
        close = self.turn("close", two, "bob")
        self.told((one, "x", False), (two, "y", True))
        more = self.turn("close", two)
        self.turn("undo", close, "bob")
        self.told((one, "x", False), (two, "y", True))
        self.turn("undo", more)
        self.told((one, "x", False), (two, "y", False))
        self.turn("redo", more)
        self.told((one, "x", False), (two, "y", True))

    def test_a_close_that_does_not_stand(self):
        one = self.say(names(self.one, 0), "x")
        self.turn("close", one, "cy")
        self.told((one, "x", False))

    def test_undone(self):
        one, two = self.say(names(self.one, 0), "x"), self.say(names(self.one, 0), "y")
        self.turn("undo", one)
        self.told((two, "y", False))
        self.no_key(one, held, self.story.book(), one)
        self.turn("close", one)
        self.told((two, "y", False))
        self.turn("redo", one)
        self.told((one, "x", True), (two, "y", False))
        self.holds(one, "holds", names(self.one, 0), "a")

    def test_that_does_not_stand(self):
        fails = [self.say(names(self.one, 0), "x", "cy"), self.say(names(self.one, 7), "x"), self.say(self.one, "x")]
        self.told()
        for one in fails:
            self.no_key(one, held, self.story.book(), one)

    def test_of_another_document(self):
        other = self.story.make("ann", ("open", "text"))
        self.say(names(self.one, 0), "x")
        self.same(comments(self.story.book(), doc=other), ())

    def test_a_document_that_is_none(self):
        bare = self.story.make("ann", ("row", ("zz", 0)))
        for thing in [bare, self.one, ("zz", 0), ["ann", 0]] + odd_keys():
            self.no_key(thing, comments, self.story.book(), doc=thing)
            self.no_key(thing, comments, (), doc=thing)

    def test_the_document_by_its_name_alone(self):
        with self.assertRaises(TypeError):
            comments(self.story.book(), self.of)

    def test_keys_of_no_comment(self):
        said = self.say(names(self.one, 0), "x")
        close = self.turn("close", said)
        for thing in [self.of, self.one, close, list(said), [said], (said, 0), ("ann", 40), Odd()] + odd_keys():
            self.no_key(thing, held, self.story.book(), thing)
            self.no_key(thing, held, (), thing)


class HeldTest(SayingTest):
    def setUp(self):
        SayingTest.setUp(self)
        self.one = self.put(None, "abcd")

    def test_all_live(self):
        one = self.say(names(self.one, 1, 3), "x")
        self.holds(one, "holds", names(self.one, 1, 3), "bd")

    def test_some_dead_all_dead_there_again(self):
        one = self.say(names(self.one, 0, 1, 2), "x")
        first = self.cut((self.one, 1))
        self.holds(one, "holds", names(self.one, 0, 2), "ac")
        then = self.cut((self.one, 0), (self.one, 2))
        self.holds(one, "was", (), "abc")
        self.turn("undo", first)
        self.holds(one, "holds", names(self.one, 1), "b")
        self.turn("undo", then)
        self.holds(one, "holds", names(self.one, 0, 1, 2), "abc")

    def test_in_the_order_of_the_row(self):
        two = self.put(None, "x")
        three = self.put((self.one, 0), "y")
        said = self.say(tuple(sorted([(three, 0), (two, 0), (self.one, 0), (self.one, 1)])), "x")
        self.holds(said, "holds", ((two, 0), (self.one, 0), (three, 0), (self.one, 1)), "xayb")
        cut = self.cut((two, 0), (self.one, 0), (three, 0), (self.one, 1))
        self.holds(said, "was", (), "xayb")
        self.turn("undo", cut)
        self.cut((two, 0))
        self.holds(said, "holds", ((self.one, 0), (three, 0), (self.one, 1)), "ayb")

    def test_what_is_put_between_is_not_held(self):
        said = self.say(names(self.one, 0, 1), "x")
        self.put((self.one, 0), "zz")
        self.holds(said, "holds", names(self.one, 0, 1), "ab")

    def test_on_dead_signs(self):
        self.cut((self.one, 0))
        said = self.say(names(self.one, 0), "x")
        self.holds(said, "was", (), "a")

    def test_on_a_taken_suggestion(self):
        two = self.suggest("put", (self.one, 0), "xy")
        self.turn("take", two)
        said = self.say(names(two, 1), "x")
        self.holds(said, "holds", names(two, 1), "y")

    def test_closed_ones_hold_too(self):
        said = self.say(names(self.one, 0), "x")
        self.turn("close", said)
        self.holds(said, "holds", names(self.one, 0), "a")

    def test_of_another_text(self):
        other = self.story.make("ann", ("open", "text"))
        put = self.story.make("ann", ("put", other, None, "z"))
        said = self.story.make("ann", ("say", other, names(put, 0), "x"))
        self.holds(said, "holds", names(put, 0), "z")


class RowsAndNodesTest(SayingTest):
    def test_on_a_row(self):
        self.story, self.of = opened("rows", bob="tell")
        row = self.story.make("ann", ("row", self.of))
        said = self.say(row, "x", "bob")
        self.told((said, "x", False))
        self.holds(said, "holds", row, "")
        drop = self.story.make("ann", ("drop", self.of, row))
        self.holds(said, "was", None, "")
        self.turn("undo", drop)
        self.holds(said, "holds", row, "")
        self.turn("undo", row)
        self.holds(said, "was", None, "")
        self.turn("redo", row)
        self.holds(said, "holds", row, "")

    def test_on_a_node(self):
        self.story, self.of = opened("tree")
        stem = self.story.make("ann", ("node", self.of, None, "stem"))
        leaf = self.story.make("ann", ("node", self.of, stem, "leaf"))
        said, more = self.say(leaf, "x"), self.say(stem, "y")
        self.told((said, "x", False), (more, "y", False))
        self.holds(said, "holds", leaf, "leaf")
        self.holds(more, "holds", stem, "stem")
        self.turn("undo", leaf)
        self.holds(said, "was", None, "leaf")
        self.turn("redo", leaf)
        self.turn("undo", stem)
        self.holds(said, "was", None, "leaf")
        self.holds(more, "was", None, "stem")
        self.story.make("ann", ("move", self.of, leaf, None))
        self.holds(said, "holds", leaf, "leaf")

    def test_each_sort_of_document_tells_its_comments(self):
        for sort in ("text", "rows", "tree"):
            story = Story()
            of = story.make("ann", ("open", sort))
            self.same(comments(story.book(), doc=of), ())


class ManyTest(Refusing):
    def test_of_many_books(self):
        seen = {}
        for plain in ALL + [Plain(book) for book in BOOKS]:
            alone = {}
            for of in [key(deed) for deed in plain.book if deed[4][0] == "open"]:
                self.same(comments(plain.book, doc=of), plain.comments(of))
                alone[of] = tuple(deed for deed in plain.book if doc(deed) == of)
                self.same(comments(alone[of], doc=of), plain.comments(of))
            said = {one[0]: of for of in alone for one in plain.comments(of)}
            for deed in plain.book:
                if key(deed) not in said:
                    one = key(deed)
                    self.no_key(one, held, plain.book, one)
                    continue
                told = held(plain.book, key(deed))
                self.same(told, plain.held(key(deed)))
                self.same(held(alone[doc(deed)], key(deed)), told)
                sort = plain.table[doc(deed)][4][1]
                seen[(sort, told[0])] = seen.get((sort, told[0]), 0) + 1
        self.assertEqual(len(seen), 6, seen)

    def test_comments_stand_in_all_sorts(self):
        for sort, plains in PLAINS.items():
            self.assertGreater(sum(len(comments(plain.book, doc=("ann", 0))) for plain in plains), 5, sort)


if __name__ == "__main__":
    unittest.main()
