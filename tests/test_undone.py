import unittest

from coeditry.undone import turn_of, works
from tests.chance import ALL
from tests.naive import BOOKS, key
from tests.plain import Plain
from tests.story import Refusing, odd_keys, opened


class UndoneTest(Refusing):
    def setUp(self):
        self.story, self.of = opened("rows", bob="change")
        self.row = self.story.make("bob", ("row", self.of))

    def told(self, turn, truth, one=None):
        one = one or self.row
        book = self.story.book()
        self.same(turn_of(book, one), None if turn is None else self.story.deed(turn))
        self.same(works(book, one), truth)
        self.same(turn_of(key=one, book=book), turn_of(book, one))
        self.same(works(key=one, book=book), truth)

    def turn(self, word, **named):
        return self.story.make("bob", (word, self.of, self.row), **named)

    def test_no_undo(self):
        self.told(None, True)
        self.told(None, True, self.of)

    def test_undo_and_redo_in_turn(self):
        for word, truth in (("undo", False), ("undo", False), ("redo", True), ("redo", True), ("undo", False),
                            ("redo", True)):
            self.told(self.turn(word), truth)

    def test_a_redo_of_what_was_not_undone(self):
        self.told(self.turn("redo"), True)

    def test_of_each_its_own(self):
        other = self.story.make("bob", ("row", self.of))
        undo = self.turn("undo")
        self.told(undo, False)
        self.told(None, True, other)
        self.told(None, True, undo)

    def test_one_that_does_not_stand(self):
        undo = self.turn("undo")
        self.story.make("ann", ("give", self.of, "bob", "tell"))
        redo = self.turn("redo")
        self.told(undo, False)
        self.told(None, False, redo)
        self.story.make("ann", ("undo", self.of, self.row))
        self.story.make("ann", ("redo", self.of, self.row))
        self.told(undo, False)

    def test_of_another_document(self):
        other = self.story.make("bob", ("open", "rows"))
        self.story.make("bob", ("undo", other, self.row))
        self.told(None, True)

    def test_what_does_not_stand_does_not_work(self):
        fails = self.story.make("cy", ("row", self.of))
        self.told(None, False, fails)
        bare = self.story.make("cy", ("row", ("zz", 0)))
        self.told(None, False, bare)
        self.told(None, False, self.story.make("cy", ("undo", self.of, fails)))
        self.told(None, False, fails)

    def test_no_key(self):
        book = self.story.book()
        for thing in odd_keys():
            for call in (turn_of, works):
                self.no_key(thing, call, book, thing)
                self.no_key(thing, call, (), thing)
                self.no_key(thing, call, key=thing, book=book)

    def test_of_many_books(self):
        seen = set()
        for plain in ALL + [Plain(book) for book in BOOKS]:
            for deed in plain.book:
                self.same(turn_of(plain.book, key(deed)), plain.turn(key(deed)))
                self.same(works(plain.book, key(deed)), plain.works(key(deed)))
                seen.add((plain.turn(key(deed)) or deed)[4][0])
        self.assertLessEqual({"undo", "redo", "row"}, seen)


if __name__ == "__main__":
    unittest.main()
