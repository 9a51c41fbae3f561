import unittest

from coeditry.kinds import is_name
from coeditry.views import sight, view
from tests.samples import THINGS, Odd
from tests.story import Refusing, Story, odd_keys, opened
from tests.test_texts import TextTest, names
from tests.worlds import ALL, HANDS, LARGE


def holds_a_name(thing):
    """Whether a NAME stands anywhere in a thing (of a KEY it can't be told, a pair of a mark looks like one)."""
    return isinstance(thing, tuple) and (is_name(thing) or any(holds_a_name(one) for one in thing))


class SightTest(TextTest):
    def part(self, number, due, hand="ann", **age):
        book = self.story.book()
        told = sight(book, self.of, hand=hand, **age)
        self.same(told[number], due)
        self.same(sight(key=self.of, hand=hand, book=book, **age), told)

    def body(self, *due, hand="ann"):
        self.part(2, due, hand)

    def comments(self, *due):
        self.part(3, due)

    def suggestions(self, *due):
        self.part(4, due)

    def marks(self, *due, **age):
        self.part(5, due, **age)

    def say(self, on, words, hand="ann"):
        return self.story.make(hand, ("say", self.of, on, words))

    def make(self, hand, *what):
        return self.story.make(hand, (what[0], self.of) + what[1:])


class TextSightTest(SightTest):
    def test_of_a_bare_one(self):
        self.same(sight(self.story.book(), self.of, hand="ann"), ("text", "own", (), (), (), ()))
        self.same(sight(self.story.book(), self.of, hand="bob"), ("text", "change", (), (), (), ()))

    def test_the_level_is_the_hands_own(self):
        for level in ("see", "tell", "suggest", "change", "own"):
            self.make("ann", "give", "cy", level)
            self.part(1, level, "cy")
        self.make("ann", "give", "cy", "none")
        self.no_key(self.of, sight, self.story.book(), self.of, hand="cy")

    def test_body(self):
        one = self.put(None, "abc")
        self.make("ann", "look", names(one, 1, 2), "red", True)
        self.make("bob", "look", names(one, 2), "bold", True)
        self.put((one, 0), "x", "bob")
        self.body(("a", ()), ("x", ()), ("b", ("red",)), ("c", ("bold", "red")))
        self.cut((one, 1))
        self.body(("a", ()), ("x", ()), ("c", ("bold", "red")))
        self.body(("a", ()), ("x", ()), ("c", ("bold", "red")), hand="bob")

    def test_comments(self):
        one = self.put(None, "abc")
        self.put((one, 0), "x")
        self.say(names(one, 0, 1, 2), "all", "bob")
        self.say(names(one, 1), "b")
        self.comments(("bob", "all", "holds", (0, 2, 3), "abc"), ("ann", "b", "holds", (2,), "b"))
        cut = self.cut((one, 1))
        self.comments(("bob", "all", "holds", (0, 2), "ac"), ("ann", "b", "was", (), "b"))
        self.turn("undo", cut)
        self.comments(("bob", "all", "holds", (0, 2, 3), "abc"), ("ann", "b", "holds", (2,), "b"))

    def test_places_rise_where_names_do_not(self):
        one = self.put(None, "a")
        two = self.put(None, "b")
        self.say(((one, 0), (two, 0)), "both")
        self.comments(("ann", "both", "holds", (0, 1), "ba"))

    def test_closed_and_undone_comments_are_none(self):
        one = self.put(None, "ab")
        said, more = self.say(names(one, 0), "x"), self.say(names(one, 1), "y", "bob")
        close = self.turn("close", said, "bob")
        self.comments(("bob", "y", "holds", (1,), "b"))
        self.turn("undo", more, "bob")
        self.comments()
        self.turn("undo", close, "bob")
        self.comments(("ann", "x", "holds", (0,), "a"))

    def test_comments_in_order_not_by_keys(self):
        one = self.put(None, "a")
        self.say(names(one, 0), "first", "bob")
        self.say(names(one, 0), "then", "ann")
        self.comments(("bob", "first", "holds", (0,), "a"), ("ann", "then", "holds", (0,), "a"))

    def test_suggestions(self):
        one = self.put(None, "abc")
        self.suggest("put", None, "x", hand="bob")
        self.suggest("put", (one, 1), "y z")
        self.suggest("cut", names(one, 1, 2))
        self.suggest("cut", names(one, 1))
        self.suggestions(("bob", ("put", None, "x"), "open"), ("ann", ("put", 1, "y z"), "open"),
                         ("ann", ("cut", (1, 2)), "open"), ("ann", ("cut", (1,)), "open"))
        self.cut((one, 1))
        self.suggestions(("bob", ("put", None, "x"), "open"), ("ann", ("put", 0, "y z"), "stale"),
                         ("ann", ("cut", (1,)), "open"), ("ann", ("cut", ()), "stale"))
        self.cut((one, 0))
        self.suggestions(("bob", ("put", None, "x"), "open"), ("ann", ("put", None, "y z"), "stale"),
                         ("ann", ("cut", (0,)), "open"), ("ann", ("cut", ()), "stale"))

    def test_places_of_a_cut_rise_where_its_names_do_not(self):
        one = self.put(None, "a")
        two = self.put(None, "b")
        three = self.put(None, "c")
        self.suggest("cut", ((one, 0), (two, 0), (three, 0)))
        self.suggest("cut", ((one, 0), (three, 0)))
        self.suggestions(("ann", ("cut", (0, 1, 2)), "open"), ("ann", ("cut", (0, 2)), "open"))

    def test_taken_refused_withdrawn_ones_are_none(self):
        self.put(None, "abc")
        taken, refused, withdrawn = [self.suggest("put", None, sign) for sign in "xyz"]
        self.turn("take", taken)
        self.turn("refuse", refused)
        self.turn("undo", withdrawn)
        self.suggestions()
        self.turn("redo", withdrawn)
        self.suggestions(("ann", ("put", None, "z"), "open"))

    def test_marks(self):
        one = self.put(None, "abc")
        self.make("bob", "mark", (one, 2))
        self.make("ann", "mark", (one, 1))
        self.marks(("ann", 1), ("bob", 2))
        self.cut((one, 1))
        self.marks(("ann", 0), ("bob", 1))
        self.cut((one, 0))
        self.marks(("ann", None), ("bob", 0))
        self.make("ann", "mark", None)
        self.marks(("ann", None), ("bob", 0))

    def test_marks_by_age(self):
        one = self.put(None, "abc")
        self.make("bob", "mark", (one, 2))
        for _ in range(3):
            self.make("ann", "mark", (one, 0))
        self.marks(("ann", 0), ("bob", 2))
        self.marks(("ann", 0), ("bob", 2), age=3)
        self.marks(("ann", 0), age=2)
        self.marks(("ann", 0), age=0)
        for _ in range(6):
            self.make("ann", "mark", (one, 0))
        self.marks(("ann", 0))
        self.marks(("ann", 0), ("bob", 2), age=9)

    def test_no_key_stands_in_it(self):
        one = self.put(None, "abc")
        self.say(names(one, 0), "x")
        self.suggest("put", (one, 0), "x")
        self.suggest("cut", names(one, 0))
        self.make("ann", "mark", (one, 0))
        self.assertFalse(holds_a_name(sight(self.story.book(), self.of, hand="ann")))
        self.assertTrue(holds_a_name(names(one, 0)))

    def test_documents_that_are_not_seen(self):
        one = self.put(None, "abc")
        other = self.story.make("bob", ("open", "text"))
        book = self.story.book()
        for thing in [other, one, ("zz", 0), list(self.of), ("ann", False), Odd(), None] + odd_keys():
            self.no_key(thing, sight, book, thing, hand="ann")
            self.no_key(thing, sight, (), thing, hand="ann")
        for hand in ("cy", "dan"):
            self.no_key(self.of, sight, book, self.of, hand=hand)
        self.same(sight(book, other, hand="bob"), ("text", "own", (), (), (), ()))

    def test_hand_and_age_by_their_names_alone(self):
        book = self.story.book()
        with self.assertRaises(TypeError):
            sight(book, self.of, "ann")
        with self.assertRaises(TypeError):
            view(book, "ann")


class OthersTest(SightTest):
    def test_rows(self):
        self.story, self.of = opened("rows", bob="change", cy="see")
        self.same(sight(self.story.book(), self.of, hand="cy"), ("rows", "see", (), (), (), ()))
        one, two = self.make("ann", "row"), self.make("ann", "row")
        self.make("ann", "set", two, "name", "a b")
        self.make("ann", "set", two, "cost", -3)
        self.body((), (("cost", -3, ()), ("name", "a b", ())))
        self.make("ann", "drop", one)
        self.body((("cost", -3, ()), ("name", "a b", ())))
        self.body((("cost", -3, ()), ("name", "a b", ())), hand="cy")

    def test_rows_that_clash(self):
        self.story, self.of = opened("rows", bob="change")
        row = self.make("ann", "row")
        bobs = self.story.make("bob", ("set", self.of, row, "cost", 7), [row])
        anns = self.story.make("ann", ("set", self.of, row, "cost", "8"), [row])
        self.assertLess(anns, bobs)
        self.body((("cost", 7, ("8", 7)),))
        self.make("ann", "set", row, "name", 1)
        self.body((("cost", 7, ("8", 7)), ("name", 1, ())))
        self.make("ann", "set", row, "cost", 9)
        self.body((("cost", 9, ()), ("name", 1, ())))

    def test_a_clash_by_the_keys_of_the_last_ones_not_by_values(self):
        self.story, self.of = opened("rows", bob="change", cy="change")
        row = self.make("ann", "row")
        for hand, value in (("cy", 1), ("bob", 1), ("ann", 5)):
            self.story.make(hand, ("set", self.of, row, "cost", value), [row])
        self.body((("cost", 1, (5, 1, 1)),))

    def test_comments_and_marks_on_rows(self):
        self.story, self.of = opened("rows", bob="change")
        one, two = self.make("ann", "row"), self.make("ann", "row")
        self.say(two, "here", "bob")
        self.make("bob", "mark", two)
        self.comments(("bob", "here", "holds", (1,), ""))
        self.marks(("bob", 1))
        drop = self.make("ann", "drop", one)
        self.comments(("bob", "here", "holds", (0,), ""))
        self.marks(("bob", 0))
        self.make("ann", "drop", two)
        self.comments(("bob", "here", "was", (), ""))
        self.marks(("bob", None))
        self.turn("undo", drop)
        self.part(2, ((),))
        self.part(4, ())

    def test_trees(self):
        self.story, self.of = opened("tree", bob="own")
        self.same(sight(self.story.book(), self.of, hand="bob"), ("tree", "own", (), (), (), ()))
        one, two = self.make("ann", "node", None, "one"), self.make("ann", "node", None, "two")
        three = self.make("ann", "node", one, "three")
        four = self.make("ann", "node", three, "four")
        self.body((None, "one"), (0, "three"), (1, "four"), (None, "two"))
        self.make("ann", "move", three, two)
        self.body((None, "one"), (None, "two"), (1, "three"), (2, "four"))
        self.say(four, "here", "bob")
        self.make("bob", "mark", four)
        self.comments(("bob", "here", "holds", (3,), "four"))
        self.marks(("bob", 3))
        self.turn("undo", two)
        self.body((None, "one"))
        self.comments(("bob", "here", "was", (), "four"))
        self.marks(("bob", None))
        self.part(4, ())


class ViewTest(Refusing):
    def test_nothing(self):
        self.same(view((), hand="ann"), ())

    def test_as_their_keys_rise(self):
        story = Story()
        for hand, sort in (("cy", "tree"), ("bob", "rows"), ("ann", "text"), ("bob", "text")):
            doc = story.make(hand, ("open", sort))
            story.make(hand, ("give", doc, "dan", "tell"))
        due = tuple((sort, "tell", (), (), (), ()) for sort in ("text", "rows", "text", "tree"))
        self.same(view(story.book(), hand="dan"), due)
        self.same(view(hand="dan", age=3, book=story.book()), due)
        due = (("rows", "own", (), (), (), ()), ("text", "own", (), (), (), ()))
        self.same(view(story.book(), hand="bob"), due)
        self.same(view(story.book(), hand="eve"), ())

    def test_age(self):
        story, of = opened("text")
        story.make("ann", ("mark", of, None))
        story.make("ann", ("put", of, None, "x"))
        self.assertEqual(view(story.book(), hand="ann", age=0)[0][5], ())
        self.assertEqual(view(story.book(), hand="ann", age=1)[0][5], (("ann", None),))
        self.assertEqual(view(story.book(), hand="ann")[0][5], (("ann", None),))

    def test_of_many_books(self):
        parts = [0] * 6
        for plain in ALL + LARGE:
            for hand in HANDS:
                due = plain.view(hand)
                self.same(view(plain.book, hand=hand), due)
                self.assertFalse(holds_a_name(due))
                for told in due:
                    parts = [many + (len(part) > 0) for many, part in zip(parts, told)]
                self.same(view(plain.book, hand=hand, age=1), plain.view(hand, 1))
        self.assertGreater(min(parts), 10, parts)

    def test_sights_of_many_books(self):
        for plain in ALL[::3]:
            for hand in HANDS:
                told = view(plain.book, hand=hand)
                seen = plain.sees(hand)
                self.same(told, tuple(sight(plain.book, of, hand=hand) for of in seen))
                for of in plain.docs() + [("zz", 0)] + THINGS[:8]:
                    if of not in seen:
                        self.no_key(of, sight, plain.book, of, hand=hand)


if __name__ == "__main__":
    unittest.main()
