import unittest

from coeditry.living import living, shown_text
from coeditry.looks import looks_on, runs
from coeditry.texts import row_of
from tests.chance import ALL, PLAINS
from tests.naive import BOOKS, doc, key
from tests.plain import Plain
from tests.story import Refusing, odd_names
from tests.test_texts import TextTest, names, no_texts


class LooksTest(TextTest):
    def setUp(self):
        TextTest.setUp(self)
        self.one = self.put(None, "abcd")

    def look(self, signs, look, on, hand="ann", knew_of=None):
        these = tuple((self.one, "abcd".index(sign)) for sign in signs)
        return self.story.make(hand, ("look", self.of, these, look, on), knew_of)

    def on(self, **due):
        """The LOOKS that are ON of these signs, of the others none."""
        book = self.story.book()
        for k, sign in enumerate("abcd"):
            looks = due.get(sign, ())
            self.same(looks_on(book, (self.one, k), doc=self.of), looks)
            self.same(looks_on(name=(self.one, k), doc=self.of, book=book), looks)

    def runs(self, *due):
        book = self.story.book()
        self.same(runs(book, doc=self.of), due)
        self.same(runs(doc=self.of, book=book), due)

    def test_none(self):
        self.on()
        self.runs(("abcd", ()))

    def test_several_of_one_sign(self):
        self.look("bc", "red", True)
        self.look("cd", "bold", True)
        self.on(b=("red",), c=("bold", "red"), d=("bold",))
        self.runs(("a", ()), ("b", ("red",)), ("c", ("bold", "red")), ("d", ("bold",)))

    def test_on_and_off(self):
        self.look("abcd", "red", True)
        self.look("bc", "red", False)
        self.on(a=("red",), d=("red",))
        self.runs(("a", ("red",)), ("bc", ()), ("d", ("red",)))
        self.look("b", "red", True)
        self.runs(("ab", ("red",)), ("c", ()), ("d", ("red",)))
        self.look("abcd", "bold", False)
        self.runs(("ab", ("red",)), ("c", ()), ("d", ("red",)))

    def test_the_last_in_order_counts_not_by_keys(self):
        bobs = self.look("a", "red", False, hand="bob")
        anns = self.look("a", "red", True, knew_of=[("ann", 1)])
        self.assertLess(anns, bobs)
        self.on()
        self.look("a", "red", True)
        self.on(a=("red",))

    def test_undone_and_done_again(self):
        on = self.look("ab", "red", True)
        off = self.look("b", "red", False)
        self.on(a=("red",))
        self.turn("undo", off)
        self.on(a=("red",), b=("red",))
        self.turn("undo", on)
        self.on()
        self.turn("redo", on)
        self.turn("redo", off)
        self.on(a=("red",))

    def test_that_do_not_stand(self):
        self.look("a", "red", True, hand="cy")
        self.story.make("ann", ("look", self.of, names(self.one, 0, 9), "red", True))
        self.on()

    def test_of_signs_that_do_not_live(self):
        self.look("abc", "red", True)
        self.cut((self.one, 1))
        self.on(a=("red",), b=("red",), c=("red",))
        self.runs(("ac", ("red",)), ("d", ()))
        self.turn("undo", self.one)
        self.on(a=("red",), b=("red",), c=("red",))
        self.runs()

    def test_dead_signs_between_part_nothing(self):
        self.look("b", "red", True)
        self.cut((self.one, 1))
        self.runs(("acd", ()))

    def test_behind_a_sign_with_looks_a_new_one_has_none(self):
        self.look("ab", "red", True)
        self.put((self.one, 0), "x")
        self.runs(("a", ("red",)), ("x", ()), ("b", ("red",)), ("cd", ()))

    def test_of_an_empty_text(self):
        other = self.story.make("ann", ("open", "text"))
        self.same(runs(self.story.book(), doc=other), ())
        self.cut(*names(self.one, 0, 1, 2, 3))
        self.runs()

    def test_of_a_taken_suggestion(self):
        two = self.suggest("put", None, "x")
        name = (two, 0)
        self.no_key(name, looks_on, self.story.book(), name, doc=self.of)
        self.turn("take", two)
        self.story.make("ann", ("look", self.of, (name,), "red", True))
        self.same(looks_on(self.story.book(), name, doc=self.of), ("red",))
        self.runs(("x", ("red",)), ("abcd", ()))

    def test_names_that_are_not_there(self):
        gone = [(self.one, 4), (self.of, 0), (self.one, True), [self.one, 0], (list(self.one), 0), self.one]
        for thing in gone + odd_names():
            self.no_key(thing, looks_on, self.story.book(), thing, doc=self.of)

    def test_a_document_that_is_no_text(self):
        for thing in no_texts(self.story):
            self.no_key(thing, runs, self.story.book(), doc=thing)
            for name in ((self.one, 0), None):
                self.no_key(thing, looks_on, self.story.book(), name, doc=thing)

    def test_the_document_by_its_name_alone(self):
        with self.assertRaises(TypeError):
            runs(self.story.book(), self.of)
        with self.assertRaises(TypeError):
            looks_on(self.story.book(), (self.one, 0), self.of)


class ManyTest(Refusing):
    def test_of_many_books(self):
        on = 0
        for plain in ALL + [Plain(book) for book in BOOKS]:
            for of in [key(deed) for deed in plain.book if deed[4] == ("open", "text")]:
                for name in row_of(plain.book, doc=of):
                    self.same(looks_on(plain.book, name, doc=of), plain.looks(of, name))
                    on += len(plain.looks(of, name)) > 0
                self.runs_of(plain.book, of)
        self.assertGreater(on, 20)

    def runs_of(self, book, of):
        told = runs(book, doc=of)
        self.assertEqual("".join(text for text, _ in told), shown_text(book, doc=of))
        each = [looks_on(book, name, doc=of) for name in living(book, doc=of)]
        self.same([look for text, look in told for _ in text], each)
        self.assertTrue(all(len(text) > 0 for text, _ in told))
        self.assertTrue(all(one[1] != other[1] for one, other in zip(told, told[1:])))

    def test_other_documents_turn_nothing(self):
        for plain in PLAINS["text"]:
            alone = tuple(deed for deed in plain.book if doc(deed) == ("ann", 0))
            self.same(runs(alone, doc=("ann", 0)), runs(plain.book, doc=("ann", 0)))


if __name__ == "__main__":
    unittest.main()
