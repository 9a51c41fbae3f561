import unittest

from coeditry.marks import AGE, mark_of, marks
from tests.samples import THINGS, Odd
from tests.story import Refusing, Story, odd_keys, opened
from tests.test_texts import TextTest, names
from tests.worlds import ALL, HANDS, LARGE, alone


class MarkTest(TextTest):
    def setUp(self):
        TextTest.setUp(self)
        self.one = self.put(None, "abc")

    def mark(self, at, hand="ann", knew_of=None):
        return self.story.make(hand, ("mark", self.of, at), knew_of)

    def led(self, hand, at, led):
        book = self.story.book()
        self.same(mark_of(book, hand, doc=self.of), (at, led))
        self.same(mark_of(hand=hand, doc=self.of, book=book), (at, led))

    def none(self, hand):
        self.assertIsNone(mark_of(self.story.book(), hand, doc=self.of))

    def fresh(self, *due, **age):
        book = self.story.book()
        self.same(marks(book, doc=self.of, **age), due)
        self.same(marks(doc=self.of, book=book, **age), due)

    def pass_by(self, many):
        """So many DEEDS of the document, that all stand."""
        for _ in range(many):
            self.story.make("ann", ("look", self.of, names(self.one, 0), "red", True))


class LedTest(MarkTest):
    def test_no_mark(self):
        for hand in HANDS:
            self.none(hand)
        self.fresh()

    def test_at_a_name_that_lives(self):
        self.mark((self.one, 1))
        self.led("ann", (self.one, 1), (self.one, 1))
        self.fresh(("ann", (self.one, 1)))

    def test_at_a_dead_name(self):
        self.mark((self.one, 2))
        first = self.cut((self.one, 2))
        self.led("ann", (self.one, 2), (self.one, 1))
        self.cut((self.one, 1))
        self.led("ann", (self.one, 2), (self.one, 0))
        self.cut((self.one, 0))
        self.led("ann", (self.one, 2), None)
        self.fresh(("ann", None))
        self.turn("undo", first)
        self.led("ann", (self.one, 2), (self.one, 2))

    def test_to_the_nearest_in_the_row(self):
        two = self.put((self.one, 0), "x")
        self.mark((self.one, 1))
        self.cut((self.one, 1))
        self.led("ann", (self.one, 1), (two, 0))
        self.turn("undo", two)
        self.led("ann", (self.one, 1), (self.one, 0))

    def test_what_is_put_behind_turns_it_not(self):
        self.mark((self.one, 1))
        self.put((self.one, 1), "x")
        self.led("ann", (self.one, 1), (self.one, 1))

    def test_at_none(self):
        self.mark(None)
        self.led("ann", None, None)
        self.fresh(("ann", None))

    def test_the_last_one_that_works(self):
        self.mark((self.one, 0))
        last = self.mark((self.one, 1))
        self.led("ann", (self.one, 1), (self.one, 1))
        self.turn("undo", last)
        self.led("ann", (self.one, 0), (self.one, 0))
        self.turn("redo", last)
        self.led("ann", (self.one, 1), (self.one, 1))

    def test_undone_ones_are_none(self):
        self.turn("undo", self.mark((self.one, 0)))
        self.none("ann")
        self.fresh()

    def test_that_do_not_stand(self):
        self.mark((self.one, 9))
        self.mark((self.one, 0), "cy")
        self.none("ann")
        self.none("cy")

    def test_of_each_hand_its_own(self):
        self.mark((self.one, 0))
        self.mark((self.one, 2), "bob")
        self.story.make("ann", ("give", self.of, "cy", "see"))
        self.mark(None, "cy")
        self.led("ann", (self.one, 0), (self.one, 0))
        self.led("bob", (self.one, 2), (self.one, 2))
        self.led("cy", None, None)
        self.fresh(("ann", (self.one, 0)), ("bob", (self.one, 2)), ("cy", None))

    def test_of_another_document(self):
        other = self.story.make("ann", ("open", "text"))
        self.story.make("ann", ("mark", other, None))
        self.none("ann")
        self.same(mark_of(self.story.book(), "ann", doc=other), (None, None))

    def test_odd_things_as_a_hand(self):
        self.mark((self.one, 0))
        for thing in [thing for thing in THINGS if thing != "ann"] + [Odd(), ["ann"], ("ann",), "annx", self.of]:
            self.none(thing)

    def test_a_document_that_is_none(self):
        self.mark((self.one, 0))
        bare = self.story.make("ann", ("row", ("zz", 0)))
        for thing in [self.one, bare, ("zz", 0), ["ann", 0]] + odd_keys():
            self.no_key(thing, marks, self.story.book(), doc=thing)
            for hand in ("ann", "zz", None, Odd()):
                self.no_key(thing, mark_of, self.story.book(), hand, doc=thing)
                self.no_key(thing, mark_of, (), hand, doc=thing)

    def test_the_document_and_the_age_by_name_alone(self):
        for handed in ((self.story.book(), self.of), (self.story.book(), self.of, 3)):
            with self.assertRaises(TypeError):
                marks(*handed)
        with self.assertRaises(TypeError):
            mark_of(self.story.book(), "ann", self.of)


class OthersTest(MarkTest):
    def test_at_a_row(self):
        self.story, self.of = opened("rows", bob="see")
        row = self.story.make("ann", ("row", self.of))
        self.mark(row, "bob")
        self.led("bob", row, row)
        drop = self.story.make("ann", ("drop", self.of, row))
        self.led("bob", row, None)
        self.fresh(("bob", None))
        self.turn("undo", drop)
        self.led("bob", row, row)
        self.fresh(("bob", row))
        self.turn("undo", row)
        self.led("bob", row, None)

    def test_at_a_node(self):
        self.story, self.of = opened("tree")
        stem = self.story.make("ann", ("node", self.of, None, "stem"))
        leaf = self.story.make("ann", ("node", self.of, stem, "leaf"))
        self.mark(leaf)
        self.led("ann", leaf, leaf)
        self.turn("undo", stem)
        self.led("ann", leaf, None)
        self.story.make("ann", ("move", self.of, leaf, None))
        self.led("ann", leaf, leaf)


class FreshTest(MarkTest):
    def test_age(self):
        self.assertEqual(AGE, 8)

    def test_the_newest_by_age_nothing(self):
        self.mark((self.one, 0))
        self.fresh(("ann", (self.one, 0)), age=0)
        self.pass_by(1)
        self.fresh(age=0)
        self.fresh(("ann", (self.one, 0)), age=1)

    def test_by_age_left_out(self):
        self.mark((self.one, 0))
        self.pass_by(8)
        self.fresh(("ann", (self.one, 0)))
        self.fresh(("ann", (self.one, 0)), age=8)
        self.fresh(age=7)
        self.pass_by(1)
        self.fresh()
        self.fresh(("ann", (self.one, 0)), age=9)
        self.fresh(("ann", (self.one, 0)), age=10 ** 6)

    def test_only_the_last_mark_counts(self):
        self.mark((self.one, 0))
        self.pass_by(3)
        last = self.mark((self.one, 1))
        self.fresh(("ann", (self.one, 1)), age=0)
        self.turn("undo", last)
        self.fresh(("ann", (self.one, 0)), age=5)
        self.fresh(age=4)

    def test_by_deeds_that_stand_alone(self):
        self.mark((self.one, 0))
        for _ in range(3):
            self.story.make("ann", ("cut", self.of, ((self.of, 0),)))
        self.fresh(("ann", (self.one, 0)), age=0)
        self.pass_by(1)
        self.fresh(age=3)
        self.fresh(("ann", (self.one, 0)), age=4)

    def test_undone_deeds_count(self):
        self.mark((self.one, 0))
        self.turn("undo", self.cut((self.one, 2)))
        self.fresh(age=1)
        self.fresh(("ann", (self.one, 0)), age=2)

    def test_some_fresh_some_not(self):
        self.mark((self.one, 0), "bob")
        self.pass_by(2)
        self.mark((self.one, 2))
        self.fresh(("ann", (self.one, 2)), age=2)
        self.fresh(("ann", (self.one, 2)), ("bob", (self.one, 0)), age=3)

    def test_of_an_empty_document(self):
        for sort in ("text", "rows", "tree"):
            story = Story()
            of = story.make("ann", ("open", sort))
            self.same(marks(story.book(), doc=of), ())
            self.assertIsNone(mark_of(story.book(), "ann", doc=of))


class ManyTest(Refusing):
    def test_of_many_books(self):
        led = {}
        for plain in ALL + LARGE:
            for of in plain.docs():
                for hand in HANDS + ("dan",):
                    due = plain.mark(of, hand)
                    self.same(mark_of(plain.book, hand, doc=of), due)
                    self.same(mark_of(alone(plain, of), hand, doc=of), due)
                    if due:
                        told = plain.sort(of), due[0] is None, due[1] is None
                        led[told] = led.get(told, 0) + 1
                self.same(marks(plain.book, doc=of), plain.marks(of))
                last = None
                for age in (0, 1, 3, 8, 20, 100):
                    told = marks(plain.book, doc=of, age=age)
                    self.same(told, plain.marks(of, age))
                    self.assertTrue(last is None or set(last) <= set(told))
                    last = told
        # At a NAME, a row, a node, led to one and to none, and at None.
        self.assertEqual(len(led), 9, led)


if __name__ == "__main__":
    unittest.main()
