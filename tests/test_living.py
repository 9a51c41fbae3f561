import unittest

from coeditry.living import kept_dead, living, shown_text, signs_of
from coeditry.texts import row_of, sign_of
from tests.chance import ALL, PLAINS
from tests.naive import BOOKS, doc, key
from tests.plain import Plain
from tests.samples import Odd
from tests.story import Refusing, odd_names
from tests.test_texts import TextTest, names, no_texts


class LivingTest(TextTest):
    def setUp(self):
        TextTest.setUp(self)
        self.one = self.put(None, "abc")

    def told(self, **dead):
        """What is told, where dead are these signs of the first put, each by some KEYS."""
        book = self.story.book()
        for k, sign in enumerate("abc"):
            self.dead((self.one, k), *dead.get(sign, ()))
        lives = [name for name in row_of(book, doc=self.of) if kept_dead(book, name, doc=self.of) == ()]
        self.same(living(book, doc=self.of), tuple(lives))
        self.same(living(doc=self.of, book=book), tuple(lives))
        text = "".join(sign_of(book, name, doc=self.of) for name in lives)
        self.same(shown_text(book, doc=self.of), text)
        self.same(shown_text(doc=self.of, book=book), text)
        due = tuple((name, sign_of(book, name, doc=self.of), name in lives) for name in row_of(book, doc=self.of))
        self.same(signs_of(book, doc=self.of), due)
        self.same(signs_of(doc=self.of, book=book), due)

    def dead(self, name, *keys):
        book = self.story.book()
        self.same(kept_dead(book, name, doc=self.of), tuple(sorted(keys)))
        self.same(kept_dead(name=name, doc=self.of, book=book), tuple(sorted(keys)))

    def shown(self, due):
        self.assertEqual(shown_text(self.story.book(), doc=self.of), due)


class CutTest(LivingTest):
    def test_all_live(self):
        self.told()
        self.shown("abc")

    def test_cuts(self):
        cut = self.cut((self.one, 1))
        self.told(b=[cut])
        self.shown("ac")
        more = self.cut((self.one, 1), (self.one, 2), hand="bob")
        self.told(b=[cut, more], c=[more])
        self.shown("a")
        last = self.cut(*names(self.one, 0, 1, 2))
        self.told(a=[last], b=[cut, more, last], c=[more, last])
        self.shown("")

    def test_undone_cuts(self):
        cut = self.cut((self.one, 0), (self.one, 1))
        more = self.cut((self.one, 1))
        self.turn("undo", cut)
        self.told(b=[more])
        self.turn("undo", more)
        self.told()
        self.turn("redo", cut)
        self.told(a=[cut], b=[cut])
        self.shown("c")

    def test_cuts_that_do_not_stand(self):
        self.cut((self.one, 1), hand="cy")
        self.cut((self.one, 1), (self.one, 9))
        self.told()

    def test_a_cut_of_another_document(self):
        other = self.story.make("ann", ("open", "text"))
        self.story.make("ann", ("cut", other, names(self.one, 0)))
        self.told()

    def test_keys_rise_by_hands(self):
        bobs = self.cut((self.one, 0), hand="bob")
        anns = self.cut((self.one, 0))
        self.assertEqual(kept_dead(self.story.book(), (self.one, 0), doc=self.of), (anns, bobs))
        self.told(a=[anns, bobs])


class PutTest(LivingTest):
    def test_an_undone_put(self):
        two = self.put((self.one, 0), "x", hand="bob")
        self.turn("undo", self.one)
        self.told(a=[self.one], b=[self.one], c=[self.one])
        self.dead((two, 0))
        self.shown("x")
        cut = self.cut((self.one, 1))
        self.told(a=[self.one], b=[self.one, cut], c=[self.one])
        self.turn("redo", self.one)
        self.told(b=[cut])
        self.shown("axc")

    def test_a_taken_suggestion(self):
        two = self.suggest("put", (self.one, 0), "xy", hand="bob")
        self.shown("abc")
        take = self.turn("take", two)
        self.shown("axybc")
        self.dead((two, 0))
        cut = self.cut((two, 0))
        self.dead((two, 0), cut)
        self.turn("undo", take)
        self.shown("aybc")
        self.told()

    def test_a_taken_suggestion_that_is_undone(self):
        two = self.suggest("put", (self.one, 0), "xy", hand="bob")
        self.turn("undo", two, hand="bob")
        self.turn("take", two)
        self.shown("abc")
        self.dead((two, 0), two)
        cut = self.cut((two, 1))
        self.dead((two, 1), two, cut)
        self.turn("redo", two, hand="bob")
        self.dead((two, 0), two)
        self.told()

    def test_one_that_is_undone_and_done_again_and_taken(self):
        two = self.suggest("put", None, "x")
        self.turn("undo", two)
        self.turn("redo", two)
        self.turn("take", two)
        self.shown("xabc")
        self.dead((two, 0))


class SuggestedCutTest(LivingTest):
    def test_left_and_refused(self):
        two = self.suggest("cut", names(self.one, 0))
        self.told()
        self.turn("refuse", two)
        self.told()

    def test_taken(self):
        two = self.suggest("cut", names(self.one, 0, 2), hand="bob")
        self.turn("take", two)
        self.told(a=[two], c=[two])
        self.shown("b")
        cut = self.cut((self.one, 0))
        self.told(a=[two, cut], c=[two])

    def test_taken_after_it_was_undone(self):
        two = self.suggest("cut", names(self.one, 0), hand="bob")
        self.turn("undo", two, hand="bob")
        self.turn("take", two)
        self.told()

    def test_a_take_that_does_not_stand(self):
        two = self.suggest("cut", names(self.one, 0))
        self.turn("take", two, hand="cy")
        self.told()


class AskingTest(LivingTest):
    def test_names_that_are_not_there(self):
        left = self.suggest("put", None, "z")
        gone = [(self.one, 3), (left, 0), (self.of, 0), (list(self.one), 0), [self.one, 0], (self.one, True), self.one]
        for thing in gone + odd_names() + [Odd()]:
            self.no_key(thing, kept_dead, self.story.book(), thing, doc=self.of)

    def test_a_document_that_is_no_text(self):
        things = no_texts(self.story)
        for thing in things:
            for call in (signs_of, living, shown_text):
                self.no_key(thing, call, self.story.book(), doc=thing)
            for name in ((self.one, 0), None, ["a"]):
                self.no_key(thing, kept_dead, self.story.book(), name, doc=thing)

    def test_the_document_by_its_name_alone(self):
        for call in (signs_of, living, shown_text):
            with self.assertRaises(TypeError):
                call(self.story.book(), self.of)
        with self.assertRaises(TypeError):
            kept_dead(self.story.book(), (self.one, 0), self.of)

    def test_an_empty_text(self):
        other = self.story.make("ann", ("open", "text"))
        book = self.story.book()
        self.same(signs_of(book, doc=other), ())
        self.same(living(book, doc=other), ())
        self.same(shown_text(book, doc=other), "")


class ManyTest(Refusing):
    def test_of_many_books(self):
        dead = 0
        for plain in ALL + [Plain(book) for book in BOOKS]:
            for of in [key(deed) for deed in plain.book if deed[4] == ("open", "text")]:
                self.same(living(plain.book, doc=of), tuple(plain.living(of)))
                self.same(shown_text(plain.book, doc=of), plain.text(of, plain.living(of)))
                for name, sign, lives in signs_of(plain.book, doc=of):
                    self.same((sign, lives), (plain.text(of, [name]), name in plain.living(of)))
                    self.same(kept_dead(plain.book, name, doc=of), plain.dead_by(of, name))
                    dead += not lives
        self.assertGreater(dead, 50)

    def test_other_documents_turn_nothing(self):
        for plain in PLAINS["text"]:
            alone = tuple(deed for deed in plain.book if doc(deed) == ("ann", 0))
            self.same(signs_of(alone, doc=("ann", 0)), signs_of(plain.book, doc=("ann", 0)))


if __name__ == "__main__":
    unittest.main()
