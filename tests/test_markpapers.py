import unittest

from coeditry.markchecker import lets_mark
from coeditry.markpapers import mark_paper
from coeditry.marks import mark_of
from tests.samples import THINGS, Odd
from tests.story import Refusing, odd_keys, opened
from tests.test_texts import TextTest, names
from tests.worlds import ALL, HANDS, LARGE, alone


class PaperTest(TextTest):
    """A text "abcde" where ann's MARK is at d."""

    def setUp(self):
        TextTest.setUp(self)
        self.one = self.put(None, "abcde")
        self.a, self.b, self.c, self.d, self.e = names(self.one, 0, 1, 2, 3, 4)
        self.mark(self.d)

    def mark(self, at, hand="ann"):
        return self.story.make(hand, ("mark", self.of, at))

    def paper(self, *due, hand="ann"):
        book = self.story.book()
        self.same(mark_paper(book, hand, doc=self.of), due)
        self.same(mark_paper(hand=hand, doc=self.of, book=book), due)
        self.lets(*due, hand=hand)

    def lets(self, *paper, hand="ann"):
        book = self.story.book()
        self.same(lets_mark(book, hand, paper, doc=self.of), len(paper))
        self.same(lets_mark(thing=paper, hand=hand, doc=self.of, book=book), len(paper))

    def refused(self, word, at, *thing):
        self.no_paper(word, at, lets_mark, self.story.book(), "ann", thing, doc=self.of)


class PapersTest(PaperTest):
    def test_where_the_name_lives(self):
        self.paper()
        self.cut(self.c, self.e)
        self.paper()

    def test_one_dead_several_dead_all_dead_to_the_front(self):
        first = self.cut(self.d)
        self.paper((self.d, first))
        then = self.cut(self.b, self.c)
        self.paper((self.d, first), (self.c, then), (self.b, then))
        last = self.cut(self.a)
        self.paper((self.d, first), (self.c, then), (self.b, then), (self.a, last))
        self.turn("undo", first)
        self.paper()

    def test_by_the_row_not_by_the_name(self):
        two = self.put(self.c, "xy")
        cut = self.cut(self.d)
        self.paper((self.d, cut))
        self.turn("undo", two)
        self.paper((self.d, cut), ((two, 1), two), ((two, 0), two))

    def test_at_the_front_of_the_row(self):
        self.mark(self.a)
        cut = self.cut(self.a)
        self.paper((self.a, cut))

    def test_by_any_of_several(self):
        cuts = [self.cut(self.d), self.cut(self.d, hand="bob")]
        told = mark_paper(self.story.book(), "ann", doc=self.of)
        self.assertIn(told, [((self.d, cut),) for cut in cuts])
        for cut in cuts:
            self.lets((self.d, cut))

    def test_of_another_hand(self):
        self.mark(self.b, "bob")
        cut = self.cut(self.d)
        self.paper((self.d, cut))
        self.paper(hand="bob")

    def test_hands_without_a_mark_at_a_name(self):
        self.mark(None)
        for thing in ["ann", "bob", "cy", "dan", Odd(), ["ann"], self.of] + THINGS:
            self.no_key(thing, mark_paper, self.story.book(), thing, doc=self.of)
            for handed in ((), None, ((self.d, self.one),)):
                self.no_key(thing, lets_mark, self.story.book(), thing, handed, doc=self.of)

    def test_undone_marks(self):
        last = self.mark(self.b)
        cut = self.cut(self.b)
        self.paper((self.b, cut))
        self.turn("undo", last)
        self.paper()

    def test_marks_at_rows_and_nodes(self):
        for sort, made in (("rows", ("row",)), ("tree", ("node", None, "leaf"))):
            story, of = opened(sort)
            thing = story.make("ann", (made[0], of) + made[1:])
            story.make("ann", ("mark", of, thing))
            self.assertEqual(mark_of(story.book(), "ann", doc=of), (thing, thing))
            self.no_key("ann", mark_paper, story.book(), "ann", doc=of)
            self.no_key("ann", lets_mark, story.book(), "ann", (), doc=of)

    def test_a_document_that_is_none(self):
        bare = self.story.make("ann", ("row", ("zz", 0)))
        for thing in [self.one, bare, ("zz", 0), ["ann", 0]] + odd_keys():
            for hand in ("ann", "zz", None):
                self.no_key(thing, mark_paper, self.story.book(), hand, doc=thing)
                self.no_key(thing, lets_mark, self.story.book(), hand, (), doc=thing)
                self.no_key(thing, lets_mark, (), hand, None, doc=thing)

    def test_the_document_by_its_name_alone(self):
        with self.assertRaises(TypeError):
            mark_paper(self.story.book(), "ann", self.of)
        with self.assertRaises(TypeError):
            lets_mark(self.story.book(), "ann", (), self.of)


class CheckerTest(PaperTest):
    def setUp(self):
        PaperTest.setUp(self)
        self.first = self.cut(self.c, self.d)
        self.then = self.cut(self.d, hand="bob")
        # a, b and e live.

    def test_let_by(self):
        self.lets((self.d, self.first), (self.c, self.first))
        self.lets((self.d, self.then), (self.c, self.first))

    def test_shape(self):
        due = ((self.d, self.first), (self.c, self.first))
        for thing in [list(due), (due[0], list(due[1])), (due[0], (self.c,)), due + (None,), (due[0] + (None,),), "ab",
                      Odd(), (self.d,) + due] + [thing for thing in THINGS if not isinstance(thing, tuple)]:
            if thing != (self.d,) + due:
                self.no_paper("shape", -1, lets_mark, self.story.book(), "ann", thing, doc=self.of)

    def test_name(self):
        d, c = (self.d, self.first), (self.c, self.first)
        self.refused("name", 0, c, d)
        self.refused("name", 0, (self.e, self.first))
        self.refused("name", 1, d, d)
        self.refused("name", 1, d, (self.b, self.first))
        self.refused("name", 2, d, c, (self.a, self.first))
        for odd in [None, self.one, list(self.d), (list(self.one), 3), Odd(), (), "d"] + THINGS:
            self.refused("name", 0, (odd, self.first))
            self.refused("name", 1, d, (odd, self.first))

    def test_name_where_there_is_none(self):
        last = self.cut(self.a, self.b)
        due = ((self.d, self.first), (self.c, self.first), (self.b, last), (self.a, last))
        self.lets(*due)
        for more in ((self.a, last), (self.e, last), (None, None), (self.d, self.first)):
            self.refused("name", 4, *due, more)

    def test_true_is_no_1(self):
        self.mark(self.b)
        cut = self.cut(self.b)
        self.lets((self.b, cut))
        self.refused("name", 0, ((self.one, True), cut))

    def test_by(self):
        d, c = (self.d, self.first), (self.c, self.first)
        self.refused("by", 0, (self.d, self.one))
        self.refused("by", 0, (self.d, None))
        self.refused("by", 1, d, (self.c, self.then))
        for odd in [None, list(self.first), (self.first, 0), Odd(), ("zz", 0)] + THINGS:
            self.refused("by", 1, d, (self.c, odd))
        # A NAME that LIVES is dead by nothing.
        for by in (None, self.first, self.one, False, ()):
            self.refused("by", 2, d, c, (self.b, by))

    def test_of_a_name_that_lives(self):
        self.mark(self.b)
        self.lets()
        self.refused("by", 0, (self.b, self.first))
        self.refused("by", 0, (self.b, None))
        self.refused("name", 0, (self.a, self.first))

    def test_more(self):
        self.refused("more", -1)
        self.refused("more", -1, (self.d, self.first))
        last = self.cut(self.b)
        self.refused("more", -1, (self.d, self.then), (self.c, self.first))
        self.cut(self.a)
        self.refused("more", -1, (self.d, self.then), (self.c, self.first), (self.b, last))

    def test_which_goes_first(self):
        d = (self.d, self.first)
        self.refused("shape", -1, (self.c, None), None)
        self.refused("name", 0, (self.c, None), (self.c, None))
        self.refused("by", 0, (self.d, None), (self.d, None))
        self.refused("name", 1, d, (self.b, None))
        self.refused("by", 1, d, (self.c, None))

    def test_what_is_handed_in_stays(self):
        thing = [[self.d, self.first]]
        self.no_paper("shape", -1, lets_mark, self.story.book(), "ann", thing, doc=self.of)
        self.assertEqual(thing, [[self.d, self.first]])


class ManyTest(Refusing):
    def test_of_many_books(self):
        many = {}
        for plain in ALL + LARGE:
            for of in plain.docs():
                for hand in HANDS + ("dan",):
                    mark = plain.mark(of, hand)
                    if mark is None or mark[0] is None or not isinstance(mark[0][0], tuple):
                        self.no_key(hand, mark_paper, plain.book, hand, doc=of)
                        self.no_key(hand, lets_mark, plain.book, hand, (), doc=of)
                        continue
                    told = mark_paper(plain.book, hand, doc=of)
                    self.look(plain, of, mark, told)
                    self.same(lets_mark(plain.book, hand, told, doc=of), len(told))
                    self.same(lets_mark(alone(plain, of), hand, told, doc=of), len(told))
                    many[min(len(told), 3)] = many.get(min(len(told), 3), 0) + 1
                    for cut in range(len(told)):
                        self.no_paper("more", -1, lets_mark, plain.book, hand, told[:cut], doc=of)
        self.assertGreater(min(many.get(k, 0) for k in (0, 1, 2)), 2, many)

    def look(self, plain, of, mark, told):
        """The paper goes from the MARK's NAME to just behind the one that it is LED to."""
        row = plain.row(of)
        at = row.index(mark[0])
        start = 0 if mark[1] is None else row.index(mark[1]) + 1
        self.assertEqual([name for name, _ in told], row[start:at + 1][::-1])
        for name, by in told:
            self.assertIn(by, plain.gone_by(of, name))


if __name__ == "__main__":
    unittest.main()
