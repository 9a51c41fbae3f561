import unittest

from coeditry.texts import hung_on, row_of, sign_of
from tests.chance import ALL, HOUSES, PLAINS
from tests.naive import BOOKS, doc, key, knew
from tests.plain import Plain, place
from tests.story import Refusing, odd_keys, odd_names, opened


def no_texts(story):
    """KEYS, and other things, that are no text's of the Story."""
    other = [story.make("ann", ("open", sort)) for sort in ("rows", "tree")]
    bare = story.make("ann", ("row", ("zz", 0)))
    return other + [bare, ("zz", 0), ("ann", 1), ["ann", 0], ("ann", False)] + odd_keys()


class TextTest(Refusing):
    """A text of ann's, with what is put there."""

    def setUp(self):
        self.story, self.of = opened("text", bob="change")

    def put(self, after, signs, hand="ann", knew_of=None):
        return self.story.make(hand, ("put", self.of, after, signs), knew_of)

    def cut(self, *names, hand="ann"):
        return self.story.make(hand, ("cut", self.of, tuple(sorted(names))))

    def suggest(self, *inner, hand="ann"):
        return self.story.make(hand, ("suggest", self.of, inner))

    def turn(self, word, one, hand="ann"):
        return self.story.make(hand, (word, self.of, one))

    def row(self, *names):
        """The ROW is these NAMES, given as KEYS with as many numbers."""
        book = self.story.book()
        self.same(row_of(book, doc=self.of), names)
        self.same(row_of(doc=self.of, book=book), names)

    def text(self, due):
        book = self.story.book()
        self.assertEqual("".join(sign_of(book, name, doc=self.of) for name in row_of(book, doc=self.of)), due)


def names(one, *ks):
    return tuple((one, k) for k in ks)


class RowTest(TextTest):
    def test_nothing(self):
        self.row()

    def test_at_the_front(self):
        one = self.put(None, "abc")
        self.row(*names(one, 0, 1, 2))
        two = self.put(None, "de")
        self.row(*names(two, 0, 1), *names(one, 0, 1, 2))
        self.text("deabc")

    def test_behind_one_sign_by_several(self):
        one = self.put(None, "abc")
        two = self.put((one, 1), "x", hand="bob", knew_of=[one])
        three = self.put((one, 1), "yz", knew_of=[one])
        self.assertLess(place(self.story.deed(three)), place(self.story.deed(two)))
        self.row(*names(one, 0, 1), (two, 0), *names(three, 0, 1), (one, 2))
        four = self.put((three, 0), "w")
        five = self.put((one, 2), "v")
        self.row(*names(one, 0, 1), (two, 0), (three, 0), (four, 0), (three, 1), (one, 2), (five, 0))
        self.text("abxywzcv")

    def test_by_order_not_by_keys(self):
        first = self.put(None, "a", hand="bob", knew_of=[("ann", 1)])
        for _ in range(3):
            self.story.make("ann", ("mark", self.of, None), [])
        last = self.put(None, "b", knew_of=[])
        self.assertLess(last, first)
        self.assertLess(place(self.story.deed(first)), place(self.story.deed(last)))
        self.row((last, 0), (first, 0))

    def test_behind_dead_signs(self):
        one = self.put(None, "abc")
        self.cut((one, 1))
        two = self.put((one, 1), "x")
        self.turn("undo", one)
        three = self.put((one, 0), "y")
        self.row((one, 0), (three, 0), (one, 1), (two, 0), (one, 2))
        self.text("aybxc")

    def test_what_does_not_stand_puts_nothing(self):
        one = self.put(None, "a")
        self.put(None, "x", hand="cy")
        self.put((one, 1), "y")
        self.row((one, 0))

    def test_a_taken_suggestion(self):
        one = self.put(None, "ab")
        two = self.suggest("put", (one, 0), "xy", hand="bob")
        left = self.suggest("put", None, "z")
        self.row(*names(one, 0, 1))
        self.turn("refuse", left)
        three = self.put((one, 0), "w")
        self.turn("take", two)
        self.row((one, 0), *names(two, 0, 1), (three, 0), (one, 1))
        four = self.put((two, 0), "v")
        self.row((one, 0), (two, 0), (four, 0), (two, 1), (three, 0), (one, 1))
        self.text("axvywb")

    def test_it_comes_at_the_place_of_the_take(self):
        two = self.suggest("put", None, "x")
        one = self.put(None, "a")
        self.row((one, 0))
        self.turn("take", two)
        self.row((two, 0), (one, 0))

    def test_a_taken_cut_puts_nothing(self):
        one = self.put(None, "ab")
        self.turn("take", self.suggest("cut", names(one, 0)))
        self.row(*names(one, 0, 1))

    def test_an_undone_suggestion_that_is_taken(self):
        two = self.suggest("put", None, "x")
        self.turn("undo", two)
        self.turn("take", two)
        self.row((two, 0))

    def test_other_documents_put_nothing_here(self):
        other = self.story.make("ann", ("open", "text"))
        self.story.make("ann", ("put", other, None, "x"))
        one = self.put(None, "a")
        self.row((one, 0))


class AskingTest(TextTest):
    def setUp(self):
        TextTest.setUp(self)
        self.one = self.put(None, "abc")
        self.two = self.suggest("put", (self.one, 1), "xy")
        self.three = self.suggest("put", None, "z")
        self.four = self.put((self.one, 1), "w")
        self.cut((self.one, 1))
        self.turn("take", self.two)

    def test_signs_and_what_they_hang_on(self):
        book = self.story.book()
        for name, sign, hung in (
            ((self.one, 0), "a", None), ((self.one, 1), "b", (self.one, 0)), ((self.one, 2), "c", (self.one, 1)),
            ((self.two, 0), "x", (self.one, 1)), ((self.two, 1), "y", (self.two, 0)),
            ((self.four, 0), "w", (self.one, 1)),
        ):
            self.same(sign_of(book, name, doc=self.of), sign)
            self.same(hung_on(book, name, doc=self.of), hung)
            self.same(sign_of(name=name, doc=self.of, book=book), sign)
            self.same(hung_on(name=name, doc=self.of, book=book), hung)

    def test_names_that_are_not_there(self):
        book = self.story.book()
        gone = [(self.one, 3), (self.two, 2), (self.three, 0), (self.of, 0), (("ann", 40), 0), (list(self.one), 0),
                [self.one, 0], (self.one, True), (self.one, False), self.one, (self.one,), (self.one, 0, 0)]
        for thing in gone + odd_names():
            for call in (sign_of, hung_on):
                self.no_key(thing, call, book, thing, doc=self.of)

    def test_a_document_that_is_no_text(self):
        things = no_texts(self.story)
        book = self.story.book()
        for thing in things:
            self.no_key(thing, row_of, book, doc=thing)
            self.no_key(thing, row_of, (), doc=thing)
            for call in (sign_of, hung_on):
                for name in ((self.one, 0), None, ["a"]):
                    self.no_key(thing, call, book, name, doc=thing)

    def test_the_document_by_its_name_alone(self):
        with self.assertRaises(TypeError):
            row_of(self.story.book(), self.of)
        for call in (sign_of, hung_on):
            with self.assertRaises(TypeError):
                call(self.story.book(), (self.one, 0), self.of)

    def test_what_is_handed_in_stays(self):
        name, of = [[["ann", 0], 0]], ["ann", 0]
        self.no_key(name, sign_of, self.story.book(), name, doc=self.of)
        self.no_key(of, sign_of, self.story.book(), name, doc=of)
        self.assertEqual((name, of), ([[["ann", 0], 0]], ["ann", 0]))


class ManyTest(Refusing):
    def test_of_many_books(self):
        signs = 0
        for plain in ALL + [Plain(book) for book in BOOKS]:
            for of in [key(deed) for deed in plain.book if deed[4] == ("open", "text")]:
                self.same(row_of(plain.book, doc=of), tuple(plain.row(of)))
                held = plain.signs(of)
                for name in plain.row(of):
                    self.same(sign_of(plain.book, name, doc=of), held[name][0])
                    self.same(hung_on(plain.book, name, doc=of), held[name][1])
                    signs += 1
        self.assertGreater(signs, 300)

    def test_what_hangs_on_a_sign_stands_behind_it(self):
        for plain in PLAINS["text"]:
            row = row_of(plain.book, doc=("ann", 0))
            self.assertEqual(len(set(row)), len(row))
            for name in row:
                hung = hung_on(plain.book, name, doc=("ann", 0))
                self.assertTrue(hung is None or row.index(hung) < row.index(name))

    def test_other_documents_turn_nothing(self):
        for plain in PLAINS["text"]:
            alone = [deed for deed in plain.book if doc(deed) == ("ann", 0)]
            self.same(row_of(tuple(alone), doc=("ann", 0)), row_of(plain.book, doc=("ann", 0)))

    def test_two_signs_stand_alike_in_a_book_and_in_one_that_has_all_of_it(self):
        # [42], where each PLACING DEED of the former STANDS in the latter.
        looked = 0
        for book in HOUSES["text"]:
            of, whole = ("ann", 0), Plain(book)
            for deed in book[::5]:
                keys = knew(deed) | {key(deed)}
                part = Plain(tuple(one for one in book if key(one) in keys))
                if of not in part.table or any(whole.reason(key(one[0])) for one in part.placing(of)):
                    continue
                both = set(row_of(part.book, doc=of)) & set(row_of(book, doc=of))
                alike = [[name for name in row_of(one.book, doc=of) if name in both] for one in (part, whole)]
                self.same(alike[0], alike[1])
                looked += len(both) > 1
        self.assertGreater(looked, 50)


if __name__ == "__main__":
    unittest.main()
