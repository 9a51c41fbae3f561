import itertools
import random
import unittest

from coeditry.placing import row_by_skipping
from coeditry.texts import row_of
from tests.chance import PLAINS
from tests.naive import doc, key, knew
from tests.samples import Odd
from tests.story import Refusing, odd_keys
from tests.test_texts import TextTest, names, no_texts


class PlacingTest(TextTest):
    def came(self, came, due):
        book = self.story.book()
        self.same(row_by_skipping(book, doc=self.of, came=came), due)
        self.same(row_by_skipping(came=came, doc=self.of, book=book), due)

    def all_turns(self, *placing):
        """In each order of these KEYS of all PLACING DEEDS, and by ORDER, the same ROW comes."""
        book = self.story.book()
        due = row_of(book, doc=self.of)
        self.same(row_by_skipping(book, doc=self.of), due)
        self.same(row_by_skipping(book, doc=self.of, came=()), due)
        for came in itertools.permutations(placing):
            self.came(came, due)
        return due

    def test_nothing(self):
        self.assertEqual(self.all_turns(), ())

    def test_at_the_front(self):
        ones = [self.put(None, sign) for sign in ("ab", "c", "de")]
        row = self.all_turns(*ones)
        self.assertEqual(row, names(ones[2], 0, 1) + names(ones[1], 0) + names(ones[0], 0, 1))

    def test_those_that_wait(self):
        one = self.put(None, "ab")
        two = self.put((one, 0), "cd")
        three = self.put((one, 0), "e", hand="bob")
        four = self.put((two, 0), "f")
        five = self.put((two, 1), "g")
        row = self.all_turns(one, two, three, four, five)
        self.text("aecfdgb")
        # All wait for the same one, and those for one another.
        self.came((five, four, three, two, one), row)
        self.came((three, five, two, four, one), row)

    def test_those_made_apart(self):
        one = self.put(None, "ab")
        two = self.put((one, 0), "cd", knew_of=[one])
        three = self.put((one, 0), "ef", hand="bob", knew_of=[one])
        four = self.put((two, 1), "g", knew_of=[two])
        five = self.put((three, 0), "h", hand="bob", knew_of=[three])
        self.all_turns(one, two, three, four, five)
        self.text("aehfcdgb")

    def test_only_those_greater_in_order_are_skipped(self):
        # What hangs on a skipped sign is skipped too; behind the first lesser one nothing is.
        one = self.put(None, "a")
        two = self.put(None, "b", knew_of=[one])
        three = self.put((one, 0), "c", hand="bob", knew_of=[one])
        four = self.put(None, "d", hand="bob", knew_of=[one])
        self.all_turns(one, two, three, four)
        self.text("dbac")

    def test_taken_suggestions_by_their_takes(self):
        one = self.put(None, "ab")
        two = self.suggest("put", (one, 0), "xy", hand="bob")
        three = self.put((one, 0), "w")
        take = self.turn("take", two)
        four = self.put((two, 0), "v")
        row = self.all_turns(one, three, take, four)
        self.assertEqual(row, (names(one, 0) + names(two, 0) + names(four, 0) + names(two, 1) + names(three, 0)
                               + names(one, 1)))
        for thing in (two, (two, 0)):
            self.no_key(thing, row_by_skipping, self.story.book(), doc=self.of, came=(one, three, thing, four))

    def test_undone_and_cut_ones_come_too(self):
        one, two = self.put(None, "ab"), self.put(None, "c")
        self.turn("undo", one)
        self.cut((two, 0))
        self.assertEqual(len(self.all_turns(one, two)), 3)

    def test_others_are_none(self):
        one = self.put(None, "ab")
        less = self.suggest("cut", names(one, 0))
        take = self.turn("take", less)
        fails = self.put((one, 9), "x")
        cut = self.cut((one, 1))
        for thing in [less, take, fails, cut, self.of, ("ann", 1), (one, 0), list(one), [one]] + odd_keys() + [Odd()]:
            for came in ((thing,), (one, thing), (thing, one), (thing, thing), (thing, ["more"])):
                self.no_key(thing, row_by_skipping, self.story.book(), doc=self.of, came=came)
        self.came((one,), names(one, 0, 1))

    def test_one_of_another_document_is_none(self):
        self.put(None, "ab")
        other = self.story.make("ann", ("open", "text"))
        apart = self.story.make("ann", ("put", other, None, "x"))
        self.no_key(apart, row_by_skipping, self.story.book(), doc=self.of, came=(apart,))
        self.same(row_by_skipping(self.story.book(), doc=other, came=(apart,)), names(apart, 0))

    def test_one_that_stands_twice(self):
        one, two, three = [self.put(None, "a") for _ in range(3)]
        again = (two[0], two[1])
        self.no_key(again, row_by_skipping, self.story.book(), doc=self.of, came=(one, two, again, ("zz", 0)))
        self.no_key(again, row_by_skipping, self.story.book(), doc=self.of, came=(two, again, three, one))

    def test_one_that_lacks(self):
        one = self.put(None, "a")
        two = self.put(None, "b", hand="bob")
        three = self.put(None, "c")
        book = self.story.book()
        for came, lacks in (((three,), one), ((one,), two), ((one, two), three), ((three, one), two), ((two,), one)):
            self.no_key_like(lacks, row_by_skipping, book, doc=self.of, came=came)
        # By ORDER, not by KEYS; and what is none goes ahead of what lacks.
        self.assertLess(three, two)
        self.no_key(("zz", 0), row_by_skipping, book, doc=self.of, came=(one, ("zz", 0)))
        self.no_key(None, row_by_skipping, book, doc=self.of, came=(None,))

    def test_nothing_to_come(self):
        self.no_key_like(("ann", 0), row_by_skipping, self.story.book(), doc=self.of, came=(("ann", 0),))

    def test_a_document_that_is_no_text(self):
        self.put(None, "a")
        for thing in no_texts(self.story):
            for came in ((), (None,), (("zz", 0),)):
                self.no_key(thing, row_by_skipping, self.story.book(), doc=thing, came=came)

    def test_by_names_alone(self):
        with self.assertRaises(TypeError):
            row_by_skipping(self.story.book(), self.of)
        with self.assertRaises(TypeError):
            row_by_skipping(self.story.book(), self.of, ())

    def test_what_is_handed_in_stays(self):
        came = (["ann", 0],)
        self.no_key(came[0], row_by_skipping, self.story.book(), doc=self.of, came=came)
        self.assertEqual(came, (["ann", 0],))


class ManyTest(Refusing):
    def test_of_many_books_in_many_turns(self):
        chance = random.Random(9)
        signs = 0
        for plain in PLAINS["text"]:
            of = ("ann", 0)
            due = tuple(plain.row(of))
            placing = [key(one[0]) for one in plain.placing(of)]
            self.same(row_by_skipping(plain.book, doc=of), due)
            for _ in range(5):
                chance.shuffle(placing)
                self.same(row_by_skipping(plain.book, doc=of, came=tuple(placing)), due)
            self.same(row_by_skipping(plain.book, doc=of, came=tuple(reversed(placing))), due)
            alone = tuple(deed for deed in plain.book if doc(deed) == of)
            self.same(row_by_skipping(alone, doc=of, came=tuple(placing)), due)
            signs += len(due)
        self.assertGreater(signs, 300)

    def test_a_put_more_leaves_all_others_in_their_order(self):
        # One that no other DEED knew, wherever it stands in ORDER.
        looked = 0
        for plain in PLAINS["text"]:
            of = ("ann", 0)
            row = row_by_skipping(plain.book, doc=of)
            for put in [one[0] for one in plain.placing(of) if one[0][4][0] == "put"]:
                less = tuple(deed for deed in plain.book if deed != put)
                if not any(key(put) in knew(deed) for deed in less):
                    left = tuple(name for name in row if name[0] != key(put))
                    self.same(row_by_skipping(less, doc=of), left)
                    looked += len(left) > 1
        self.assertGreater(looked, 5)


if __name__ == "__main__":
    unittest.main()
