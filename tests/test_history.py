import unittest

from coeditry.history import wrote
from coeditry.living import living, shown_text
from coeditry.versions import book_at
from tests.chance import ALL, PLAINS
from tests.naive import BOOKS, doc, key, knew
from tests.plain import Plain
from tests.story import Refusing
from tests.test_texts import TextTest, names, no_texts


class WroteTest(TextTest):
    def wrote(self, *due):
        book = self.story.book()
        self.same(wrote(book, self.of), due)
        self.same(wrote(key=self.of, book=book), due)

    def test_none(self):
        self.wrote()

    def test_puts(self):
        one = self.put(None, "ab")
        self.put((one, 0), "c", hand="bob")
        self.wrote(("a", "ann", None), ("c", "bob", None), ("b", "ann", None))

    def test_taken_suggestions(self):
        one = self.put(None, "a", hand="bob")
        two = self.suggest("put", (one, 0), "xy", hand="bob")
        three = self.suggest("put", (one, 0), "z")
        self.wrote(("a", "bob", None))
        self.turn("take", two)
        self.turn("take", three, hand="bob")
        self.wrote(("a", "bob", None), ("z", "ann", "bob"), ("x", "bob", "ann"), ("y", "bob", "ann"))

    def test_taken_by_who_suggested(self):
        two = self.suggest("put", None, "x")
        self.turn("take", two)
        self.wrote(("x", "ann", "ann"))

    def test_only_signs_that_live(self):
        one = self.put(None, "abc")
        cut = self.cut((one, 1), hand="bob")
        self.wrote(("a", "ann", None), ("c", "ann", None))
        self.turn("undo", cut, hand="bob")
        self.wrote(("a", "ann", None), ("b", "ann", None), ("c", "ann", None))
        self.turn("undo", one)
        self.wrote()

    def test_a_cut_that_was_taken(self):
        one = self.put(None, "ab")
        self.turn("take", self.suggest("cut", names(one, 0), hand="bob"))
        self.wrote(("b", "ann", None))

    def test_keys_of_no_text(self):
        self.put(None, "a")
        for thing in no_texts(self.story):
            self.no_key(thing, wrote, self.story.book(), thing)
            self.no_key(thing, wrote, (), thing)

    def test_as_it_was_then(self):
        one = self.put(None, "ab")
        self.cut((one, 0))
        then = (("ann", one[1] + 1),)
        self.same(wrote(book_at(self.story.book(), then), self.of), (("a", "ann", None), ("b", "ann", None)))
        self.wrote(("b", "ann", None))


class ManyTest(Refusing):
    def test_of_many_books(self):
        taken = 0
        for plain in ALL + [Plain(book) for book in BOOKS]:
            for of in [key(deed) for deed in plain.book if deed[4] == ("open", "text")]:
                told = wrote(plain.book, of)
                self.same(told, plain.wrote(of))
                self.assertEqual("".join(sign for sign, _, _ in told), shown_text(plain.book, doc=of))
                self.assertEqual([hand for _, hand, _ in told], [name[0][0] for name in living(plain.book, doc=of)])
                taken += len([one for one in told if one[2] is not None])
                alone = tuple(deed for deed in plain.book if doc(deed) == of)
                self.same(wrote(alone, of), told)
        self.assertGreater(taken, 5)

    def test_each_closed_version_tells_as_it_was(self):
        for plain in PLAINS["text"][::5]:
            for deed in plain.book[::6]:
                keys = knew(deed)
                then = tuple(one for one in plain.book if key(one) in keys)
                self.same(book_at(plain.book, deed[3]), then)
                if ("ann", 0) in keys:
                    self.same(wrote(book_at(plain.book, deed[3]), ("ann", 0)), Plain(then).wrote(("ann", 0)))


if __name__ == "__main__":
    unittest.main()
