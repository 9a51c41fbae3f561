import unittest

from coeditry.books import is_book
from coeditry.parting import parted
from coeditry.sights import seen_by
from coeditry.views import view
from tests.beyond import anew, parted_plainly
from tests.naive import doc, key, knew
from tests.samples import WHATS
from tests.story import Refusing, Story, opened
from tests.worlds import ALL, HANDS, LARGE

MORE = 10 ** 6


class PartedTest(Refusing):
    def parted(self, story, hand, *due):
        book = story.book()
        self.same(parted(book, hand=hand), due)
        self.same(parted(hand=hand, book=book), due)
        self.assertTrue(is_book(due))
        self.same(view(due, hand=hand), view(book, hand=hand))

    def test_nothing(self):
        self.same(parted((), hand="ann"), ())

    def test_all_is_seen(self):
        story, of = opened("text", bob="see")
        story.make("ann", ("put", of, None, "ab"))
        self.parted(story, "ann", *story.book())
        self.parted(story, "bob", *story.book())
        self.parted(story, "cy")

    def test_numbered_anew(self):
        story = Story()
        hidden = story.make("ann", ("open", "rows"))
        of = story.make("ann", ("open", "text"))
        story.make("ann", ("row", hidden))
        story.make("ann", ("give", of, "bob", "change"))
        one = story.make("ann", ("put", of, None, "abc"))
        two = story.make("bob", ("cut", of, ((one, 0), (one, 2))))
        self.assertEqual((of, one, two), (("ann", 1), ("ann", 4), ("bob", 0)))
        self.parted(
            story, "bob",
            ("ann", 0, 0, (), ("open", "text")),
            ("ann", 1, 1, (("ann", 1),), ("give", ("ann", 0), "bob", "change")),
            ("ann", 2, 2, (("ann", 2),), ("put", ("ann", 0), None, "abc")),
            ("bob", 0, 3, (("ann", 3),), ("cut", ("ann", 0), ((("ann", 2), 0), (("ann", 2), 2)))))

    def test_of_knew_goes_of_whom_nothing_is_kept(self):
        story = Story()
        hidden = story.make("ann", ("open", "text"))
        story.make("cy", ("put", hidden, None, "x"))
        of = story.make("bob", ("open", "tree"))
        node = story.make("bob", ("node", of, None, "leaf"))
        self.assertEqual(story.deed(node)[3], (("ann", 1), ("bob", 1), ("cy", 1)))
        self.parted(story, "bob", ("bob", 0, 0, (), ("open", "tree")),
                    ("bob", 1, 1, (("bob", 1),), ("node", ("bob", 0), None, "leaf")))

    def test_those_that_are_not_kept_or_are_none(self):
        story = Story()
        hidden = story.make("ann", ("open", "text"))
        put = story.make("ann", ("put", hidden, None, "x"))
        of = story.make("ann", ("open", "text"))
        story.make("ann", ("give", of, "bob", "own"))
        gone = [put, ("ann", 40), ("zz", 7)]
        for one in gone:
            story.make("bob", ("put", of, (one, 1), "x"))
            story.make("bob", ("undo", of, one))
        told = parted(story.book(), hand="bob")
        shown = [deed[4] for deed in told if deed[0] == "bob"]
        due = []
        for hand, n in gone:
            due += [("put", ("ann", 0), ((hand, n + MORE), 1), "x"), ("undo", ("ann", 0), (hand, n + MORE))]
        self.same(shown, due)
        self.same(view(told, hand="bob"), view(story.book(), hand="bob"))

    def test_names_rise_anew(self):
        story = Story()
        hidden = story.make("ann", ("open", "text"))
        put = story.make("ann", ("put", hidden, None, "x"))
        of = story.make("ann", ("open", "text"))
        one = story.make("ann", ("put", of, None, "ab"))
        # The sign of a text that bob doesn't see stands ahead; its number comes to be the greatest.
        names = ((put, 0), (one, 0), (one, 1))
        story.make("ann", ("say", of, names, "x"))
        story.make("ann", ("give", of, "bob", "see"))
        told = parted(story.book(), hand="bob")
        self.same(told[2][4], ("say", ("ann", 0), ((("ann", 1), 0), (("ann", 1), 1), (("ann", put[1] + MORE), 0)), "x"))
        self.assertTrue(is_book(told))

    def test_keys_in_all_whats(self):
        for what, _, _ in WHATS:
            if what[0] == "open":
                continue
            story = Story()
            hidden = story.make("cy", ("open", "text"))
            gone = story.make("ann", ("row", hidden))
            of = story.make("ann", ("open", "text"))
            story.make("ann", ("give", of, "ann", "own"))
            # Of ann 0 goes, 1 comes to be 0, 2 comes to be 1; bob has none.
            story.make("ann", (what[0], of) + what[2:])
            told = parted(story.book(), hand="ann")
            self.assertEqual(len(told), 3)
            self.same(told, anew(story.book(), [of, ("ann", 2), ("ann", 3)]))
            self.assertEqual(told[2][4][1], ("ann", 0))
            self.assertEqual(gone, ("ann", 0))
            self.assertTrue(is_book(told), what)

    def test_a_value_that_looks_like_nothing_else_stays(self):
        story = Story()
        story.make("ann", ("open", "text"))
        of = story.make("ann", ("open", "rows"))
        row = story.make("ann", ("row", of))
        story.make("ann", ("set", of, row, "cost", 0))
        story.make("ann", ("set", of, row, "name", "ann"))
        story.make("ann", ("give", of, "bob", "see"))
        told = parted(story.book(), hand="bob")
        self.same([deed[4] for deed in told], [
            ("open", "rows"), ("row", ("ann", 0)), ("set", ("ann", 0), ("ann", 1), "cost", 0),
            ("set", ("ann", 0), ("ann", 1), "name", "ann"), ("give", ("ann", 0), "bob", "see")])

    def test_the_hand_by_its_name_alone(self):
        with self.assertRaises(TypeError):
            parted((), "ann")


class ManyTest(Refusing):
    def test_of_many_books(self):
        less = 0
        for plain in ALL + LARGE:
            for hand in HANDS + ("dan",):
                told = parted(plain.book, hand=hand)
                self.same(told, parted_plainly(plain.book, hand))
                self.assertTrue(is_book(told))
                self.same(view(told, hand=hand), view(plain.book, hand=hand))
                self.same(view(told, hand=hand, age=2), view(plain.book, hand=hand, age=2))
                again = parted(told, hand=hand)
                self.assertEqual(len(again), len(told))
                self.same(view(again, hand=hand), view(told, hand=hand))
                self.assertEqual(len(seen_by(told, hand=hand)), len(seen_by(plain.book, hand=hand)))
                less += 0 < len(told) < len(plain.book)
        self.assertGreater(less, 40)

    def test_documents_more_that_are_not_seen_turn_nothing(self):
        """Of a BOOK and of one without a document that the HAND doesn't see the VIEWS are the same."""
        many = 0
        for plain in ALL:
            for hand in HANDS:
                seen = seen_by(plain.book, hand=hand)
                for of in {doc(deed) for deed in plain.book} - set(seen):
                    rest = anew(plain.book, [key(deed) for deed in plain.book if doc(deed) != of])
                    if is_book(rest):
                        self.same(view(rest, hand=hand), view(plain.book, hand=hand))
                        many += 1
        self.assertGreater(many, 30)

    def test_whoever_knew_it_knows_it(self):
        for plain in ALL[::4]:
            for hand in HANDS:
                kept = [deed for deed in plain.book if doc(deed) in seen_by(plain.book, hand=hand)]
                told = parted(plain.book, hand=hand)
                self.assertEqual([deed[2] for deed in told], [deed[2] for deed in kept])
                for one, was in zip(told, kept):
                    known = [key(other) in knew(one) for other in told]
                    self.assertEqual(known, [key(other) in knew(was) for other in kept])


if __name__ == "__main__":
    unittest.main()
