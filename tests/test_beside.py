import unittest

from coeditry.beside import beside
from coeditry.living import shown_text
from tests.naive import key, make
from tests.story import Refusing
from tests.test_texts import TextTest, names, no_texts
from tests.worlds import ALL, LARGE, alone, docs


class BesideTest(TextTest):
    def setUp(self):
        TextTest.setUp(self)
        self.one = self.put(None, "abc")

    def told(self, *due):
        book = self.story.book()
        self.same(beside(book, doc=self.of), due)
        self.same(beside(doc=self.of, book=book), due)

    def sign(self, sign, *cuts):
        return ("sign", (self.one, "abc".index(sign)), sign, cuts)

    def test_signs_alone(self):
        self.told(self.sign("a"), self.sign("b"), self.sign("c"))
        self.cut((self.one, 1))
        self.told(self.sign("a"), self.sign("c"))
        self.cut((self.one, 0), (self.one, 2))
        self.told()

    def test_puts_ahead_of_all(self):
        one = self.suggest("put", None, "xy")
        two = self.suggest("put", None, "z", hand="bob")
        self.told(("put", two, "z"), ("put", one, "xy"), self.sign("a"), self.sign("b"), self.sign("c"))
        self.cut(*names(self.one, 0, 1, 2))
        self.told(("put", two, "z"), ("put", one, "xy"))

    def test_puts_behind_signs(self):
        one = self.suggest("put", (self.one, 0), "x")
        two = self.suggest("put", (self.one, 2), "y")
        three = self.suggest("put", (self.one, 0), "z")
        self.told(self.sign("a"), ("put", three, "z"), ("put", one, "x"), self.sign("b"), self.sign("c"),
                  ("put", two, "y"))

    def test_those_later_in_order_ahead_not_by_keys(self):
        bobs = self.suggest("put", (self.one, 0), "x", hand="bob")
        anns = self.suggest("put", (self.one, 0), "y")
        self.assertLess(anns, bobs)
        self.told(self.sign("a"), ("put", anns, "y"), ("put", bobs, "x"), self.sign("b"), self.sign("c"))

    def test_straight_behind_the_sign_ahead_of_what_hangs_there(self):
        two = self.put((self.one, 0), "m")
        left = self.suggest("put", (self.one, 0), "x")
        self.told(self.sign("a"), ("put", left, "x"), ("sign", (two, 0), "m", ()), self.sign("b"), self.sign("c"))

    def test_cuts(self):
        one = self.suggest("cut", names(self.one, 0, 1), hand="bob")
        two = self.suggest("cut", names(self.one, 1, 2))
        self.told(self.sign("a", one), self.sign("b", two, one), self.sign("c", two))
        self.cut((self.one, 1))
        self.told(self.sign("a", one), self.sign("c", two))
        # None of the NAMES of the first one lives now: it is stale.
        self.cut((self.one, 0))
        self.told(self.sign("c", two))

    def test_those_that_are_not_open(self):
        taken = self.suggest("put", (self.one, 0), "x")
        refused = self.suggest("put", (self.one, 0), "y")
        withdrawn = self.suggest("put", (self.one, 0), "z")
        stale = self.suggest("put", (self.one, 1), "w")
        cuts = [self.suggest("cut", names(self.one, 0)) for _ in range(3)]
        out = self.suggest("put", None, "v", hand="cy")
        self.assertEqual(out, ("cy", 0))
        self.turn("take", taken)
        self.turn("refuse", refused)
        self.turn("undo", withdrawn)
        self.turn("refuse", cuts[0])
        self.turn("undo", cuts[1])
        cut = self.cut((self.one, 1))
        self.told(self.sign("a", cuts[2]), ("sign", (taken, 0), "x", ()), self.sign("c"))
        self.turn("undo", cut)
        self.turn("redo", withdrawn)
        self.told(self.sign("a", cuts[2]), ("put", withdrawn, "z"), ("sign", (taken, 0), "x", ()), self.sign("b"),
                  ("put", stale, "w"), self.sign("c"))

    def test_on_signs_of_taken_ones(self):
        taken = self.suggest("put", None, "xy")
        self.turn("take", taken)
        cut = self.suggest("cut", names(taken, 1))
        put = self.suggest("put", (taken, 0), "z")
        self.told(("sign", (taken, 0), "x", ()), ("put", put, "z"), ("sign", (taken, 1), "y", (cut,)), self.sign("a"),
                  self.sign("b"), self.sign("c"))

    def test_of_an_empty_text(self):
        other = self.story.make("ann", ("open", "text"))
        self.same(beside(self.story.book(), doc=other), ())

    def test_a_document_that_is_no_text(self):
        for thing in no_texts(self.story):
            self.no_key(thing, beside, self.story.book(), doc=thing)
            self.no_key(thing, beside, (), doc=thing)

    def test_the_document_by_its_name_alone(self):
        with self.assertRaises(TypeError):
            beside(self.story.book(), self.of)


def shown_with(entries, one):
    """The text of the entries' signs, with what the suggestion puts, without what it cuts."""
    told = ""
    for entry in entries:
        if entry[0] == "sign" and one not in entry[3]:
            told += entry[2]
        if entry[0] == "put" and entry[1] == one:
            told += entry[2]
    return told


class ManyTest(Refusing):
    def test_of_many_books(self):
        for plain in ALL + LARGE:
            for of in docs(plain, "text"):
                due = plain.beside(of)
                self.same(beside(plain.book, doc=of), due)
                self.same(beside(alone(plain, of), doc=of), due)
                self.assertEqual(shown_with(due, None), shown_text(plain.book, doc=of))

    def test_what_is_shown_behind_a_take_is_that_of_the_entries(self):
        many = {"put": 0, "cut": 0}
        for plain in ALL + LARGE:
            for of in docs(plain, "text"):
                entries = beside(plain.book, doc=of)
                for one, inner, word in plain.suggestions(of):
                    for hand in ("ann", "bob", "cy"):
                        if word == "open" and plain.level_behind(of, hand) in ("change", "own"):
                            take = make(list(plain.book), hand, ("take", of, one))
                            book = tuple(sorted(plain.book + (take,), key=key))
                            self.assertEqual(shown_text(book, doc=of), shown_with(entries, one))
                            many[inner[0]] += 1
        self.assertGreater(min(many.values()), 10, many)


if __name__ == "__main__":
    unittest.main()
