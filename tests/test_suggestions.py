import unittest

from coeditry.suggestions import fate_of, suggestions
from tests.naive import doc
from tests.samples import Odd
from tests.story import Refusing, odd_keys
from tests.test_texts import TextTest, names, no_texts
from tests.worlds import ALL, LARGE, alone, docs, keys


class FateTest(TextTest):
    def setUp(self):
        TextTest.setUp(self)
        self.one = self.put(None, "abc")

    def fate(self, one, word, by=None):
        book = self.story.book()
        self.same(fate_of(book, one), (word, by))
        self.same(fate_of(key=one, book=book), (word, by))

    def told(self, *due):
        book = self.story.book()
        self.same(suggestions(book, doc=self.of), due)
        self.same(suggestions(doc=self.of, book=book), due)

    def cutting(self, *ks, hand="ann"):
        return self.suggest("cut", names(self.one, *ks), hand=hand)

    def test_none(self):
        self.told()

    def test_open(self):
        self.fate(self.suggest("put", None, "x"), "open")
        self.fate(self.suggest("put", (self.one, 1), "x", hand="bob"), "open")
        self.fate(self.cutting(0), "open")

    def test_taken(self):
        for left in (self.suggest("put", None, "x"), self.suggest("put", (self.one, 1), "x"), self.cutting(0, 2)):
            take = self.turn("take", left, "bob")
            self.fate(left, "taken", take)
            self.turn("take", left)
            self.turn("refuse", left)
            self.fate(left, "taken", take)

    def test_refused(self):
        for left in (self.suggest("put", None, "x", hand="bob"), self.cutting(1, hand="bob")):
            refuse = self.turn("refuse", left)
            self.fate(left, "refused", refuse)
            self.turn("take", left)
            self.fate(left, "refused", refuse)

    def test_taken_or_refused_by_one_that_does_not_stand(self):
        left = self.suggest("put", None, "x")
        self.turn("take", left, "cy")
        self.turn("refuse", left, "cy")
        self.fate(left, "open")

    def test_withdrawn(self):
        left = self.suggest("put", None, "x")
        undo = self.turn("undo", left)
        self.fate(left, "withdrawn", undo)
        again = self.turn("undo", left)
        self.fate(left, "withdrawn", again)
        self.turn("redo", left)
        self.fate(left, "open")
        last = self.turn("undo", left)
        self.fate(left, "withdrawn", last)

    def test_withdrawn_by_another_hand(self):
        left = self.suggest("put", None, "x")
        self.turn("undo", left, "bob")
        self.fate(left, "open")

    def test_taken_is_not_withdrawn_behind(self):
        left = self.suggest("put", None, "x")
        take = self.turn("take", left)
        self.turn("undo", left)
        self.fate(left, "taken", take)

    def test_withdrawn_goes_ahead_of_taken(self):
        for word in ("take", "refuse"):
            left = self.suggest("put", None, "x")
            undo = self.turn("undo", left)
            self.turn(word, left)
            self.fate(left, "withdrawn", undo)
            # It is taken, refused: so no redo of it stands any more.
            self.turn("redo", left)
            self.fate(left, "withdrawn", undo)

    def test_stale_cuts(self):
        left = self.cutting(0, 1)
        self.cut((self.one, 0))
        self.fate(left, "open")
        cut = self.cut((self.one, 1))
        self.fate(left, "stale")
        self.turn("undo", cut)
        self.fate(left, "open")

    def test_stale_puts(self):
        left, front = self.suggest("put", (self.one, 1), "x"), self.suggest("put", None, "x")
        cut = self.cut((self.one, 1))
        self.fate(left, "stale")
        self.turn("undo", cut)
        self.fate(left, "open")
        self.turn("undo", self.one)
        self.fate(left, "stale")
        self.fate(front, "open")
        self.turn("redo", self.one)
        self.fate(left, "open")

    def test_which_goes_first(self):
        withdrawn, taken, refused = [self.suggest("put", (self.one, 1), "x") for _ in range(3)]
        undo = self.turn("undo", withdrawn)
        take, refuse = self.turn("take", taken), self.turn("refuse", refused)
        self.cut((self.one, 1))
        self.fate(withdrawn, "withdrawn", undo)
        self.fate(taken, "taken", take)
        self.fate(refused, "refused", refuse)

    def test_stale_ones_may_be_taken(self):
        left = self.suggest("put", (self.one, 1), "x")
        self.cut((self.one, 1))
        take = self.turn("take", left)
        self.fate(left, "taken", take)

    def test_all_in_order_not_by_keys(self):
        bobs = self.suggest("put", None, "x", hand="bob")
        anns = self.story.make("ann", ("suggest", self.of, ("cut", names(self.one, 0))))
        self.turn("take", bobs)
        gone = self.story.make("ann", ("suggest", self.of, ("cut", names(self.one, 1))))
        self.turn("refuse", gone)
        self.assertLess(anns, bobs)
        self.told((bobs, ("put", None, "x"), "taken"), (anns, ("cut", names(self.one, 0)), "open"),
                  (gone, ("cut", names(self.one, 1)), "refused"))
        self.turn("undo", anns)
        self.cut((self.one, 0))
        self.told((bobs, ("put", None, "x"), "taken"), (anns, ("cut", names(self.one, 0)), "withdrawn"),
                  (gone, ("cut", names(self.one, 1)), "refused"))

    def test_that_do_not_stand(self):
        outs = [self.suggest("put", None, "x", hand="cy"), self.cutting(0, 9), self.suggest("put", (self.of, 0), "x")]
        self.told()
        for one in outs:
            self.no_key(one, fate_of, self.story.book(), one)

    def test_keys_of_none(self):
        left = self.suggest("put", None, "x")
        take = self.turn("take", left)
        bare = self.story.make("ann", ("suggest", ("zz", 0), ("put", None, "x")))
        rows = self.story.make("ann", ("open", "rows"))
        wrong = self.story.make("ann", ("suggest", rows, ("put", None, "x")))
        gone = [self.of, self.one, take, bare, rows, wrong, list(left), (left, 0), ("ann", 99), Odd()] + odd_keys()
        for thing in gone:
            self.no_key(thing, fate_of, self.story.book(), thing)
            self.no_key(thing, fate_of, (), thing)

    def test_a_document_that_is_no_text(self):
        self.suggest("put", None, "x")
        for thing in no_texts(self.story):
            self.no_key(thing, suggestions, self.story.book(), doc=thing)
            self.no_key(thing, suggestions, (), doc=thing)

    def test_the_document_by_its_name_alone(self):
        with self.assertRaises(TypeError):
            suggestions(self.story.book(), self.of)


class ManyTest(Refusing):
    def test_of_many_books(self):
        seen = {}
        for plain in ALL + LARGE:
            told = {}
            for of in docs(plain, "text"):
                due = plain.suggestions(of)
                self.same(suggestions(plain.book, doc=of), due)
                self.same(suggestions(alone(plain, of), doc=of), due)
                told.update({one: word for one, _, word in due})
            for one in keys(plain):
                if one not in told:
                    self.no_key(one, fate_of, plain.book, one)
                    continue
                due = plain.fate(one)
                self.same(fate_of(plain.book, one), due)
                self.same(fate_of(alone(plain, doc(plain.table[one])), one), due)
                seen[due[0]] = seen.get(due[0], 0) + 1
        self.assertEqual(sorted(seen), ["open", "refused", "stale", "taken", "withdrawn"])
        self.assertGreater(min(seen.values()), 5, seen)

    def test_for_good_by_deeds_behind(self):
        """What was taken or refused, or withdrawn ahead of it, is so whatever comes behind in ORDER."""
        for plain in ALL:
            for of in docs(plain, "text"):
                deeds = plain.deeds(of)
                for at in range(len(deeds)):
                    ahead = tuple(sorted(deeds[:at + 1]))
                    for one, _, word in suggestions(ahead, doc=of) if any(one[4][0] == "open" for one in ahead) else ():
                        ended = [deed for deed in plain.standing(of) if deed[4][0] in ("take", "refuse")
                                 and deed[4][2] == one and deed in ahead]
                        if ended and word in ("taken", "refused", "withdrawn"):
                            self.same(fate_of(plain.book, one), fate_of(ahead, one))


if __name__ == "__main__":
    unittest.main()
