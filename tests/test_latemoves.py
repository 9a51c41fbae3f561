import itertools
import random
import unittest

from coeditry.latemoves import branches_late
from coeditry.trees import branches
from tests.chance import PLAINS
from tests.naive import doc, key
from tests.samples import Odd
from tests.story import Refusing, odd_keys
from tests.test_trees import TreeTest, no_trees


class LateTest(TreeTest):
    def setUp(self):
        TreeTest.setUp(self)
        self.one = self.node(None, "one")
        self.two = self.node(None, "two", "bob")
        self.three = self.node(self.one, "three")
        self.four = self.move(self.one, self.two)
        self.five = self.move(self.two, self.three, "bob", [self.three])

    def came(self, came, due):
        book = self.story.book()
        self.same(branches_late(book, doc=self.of, came=came), due)
        self.same(branches_late(came=came, doc=self.of, book=book), due)

    def all_turns(self, *growing):
        book = self.story.book()
        due = branches(book, doc=self.of)
        self.same(branches_late(book, doc=self.of), due)
        self.same(branches_late(book, doc=self.of, came=()), due)
        for came in itertools.permutations(growing):
            self.came(came, due)
        return due

    def test_nothing(self):
        other = self.story.make("ann", ("open", "tree"))
        self.same(branches_late(self.story.book(), doc=other), ())
        self.no_key(self.one, branches_late, self.story.book(), doc=other, came=(self.one,))

    def test_all_turns(self):
        due = self.all_turns(self.one, self.two, self.three, self.four, self.five)
        self.assertEqual([row[:2] for row in due], [(self.two, None), (self.one, self.two), (self.three, self.one)])

    def test_a_move_that_turns_idle_late_and_back(self):
        # Behind the first come moves that it makes idle, and one that it lets by.
        six = self.move(self.three, self.two)
        seven = self.move(self.two, self.one)
        self.all_turns(self.one, self.two, self.three, self.four, self.five, six, seven)

    def test_undone_ones_do_not_come(self):
        self.turn("undo", self.four)
        due = self.all_turns(self.one, self.two, self.three, self.five)
        self.assertEqual([row[:2] for row in due], [(self.one, None), (self.three, self.one), (self.two, self.three)])
        self.no_key(self.four, branches_late, self.story.book(), doc=self.of, came=(self.one, self.four))

    def test_a_node_undone_does_not_come_its_moves_do(self):
        self.turn("undo", self.one)
        due = self.all_turns(self.two, self.three, self.four, self.five)
        self.assertEqual(due, ((self.two, None, "two"),))
        self.turn("redo", self.one)
        self.assertEqual(len(self.all_turns(self.one, self.two, self.three, self.four, self.five)), 3)

    def test_others_are_none(self):
        mark = self.story.make("ann", ("mark", self.of, None))
        fails = self.node(None, "no", "cy")
        for thing in [mark, fails, self.of, list(self.one), (self.one, 0), [self.one], Odd()] + odd_keys():
            for came in ((thing,), (self.one, thing), (thing, self.one), (thing, thing), (thing, ["more"])):
                self.no_key(thing, branches_late, self.story.book(), doc=self.of, came=came)

    def test_one_that_stands_twice(self):
        again = (self.two[0], self.two[1])
        for came in ((self.two, again), (self.one, self.two, again, ("zz", 0)), (self.two, self.one, again, None)):
            self.no_key(again, branches_late, self.story.book(), doc=self.of, came=came)

    def test_one_that_lacks(self):
        growing = [self.one, self.two, self.three, self.four, self.five]
        for at, lacks in enumerate(growing):
            for came in (tuple(growing[:at] + growing[at + 1:]), tuple(growing[:at][::-1] + growing[at + 2:])):
                if came != ():
                    self.no_key_like(lacks, branches_late, self.story.book(), doc=self.of, came=came)
        self.no_key_like(self.two, branches_late, self.story.book(), doc=self.of, came=(self.five, self.one))

    def test_a_document_that_is_no_tree(self):
        for thing in no_trees(self.story):
            for came in ((), (None,), (self.one,)):
                self.no_key(thing, branches_late, self.story.book(), doc=thing, came=came)

    def test_by_names_alone(self):
        with self.assertRaises(TypeError):
            branches_late(self.story.book(), self.of)
        with self.assertRaises(TypeError):
            branches_late(self.story.book(), self.of, ())

    def test_what_is_handed_in_stays(self):
        came = (self.one, ["ann", 0])
        self.no_key(came[1], branches_late, self.story.book(), doc=self.of, came=came)
        self.assertEqual(came, (self.one, ["ann", 0]))


class ManyTest(Refusing):
    def test_of_many_books_in_many_turns(self):
        chance = random.Random(11)
        nodes = 0
        for plain in PLAINS["tree"]:
            of = ("ann", 0)
            due = plain.branches(of)
            growing = [key(deed) for deed in plain.working(of, "node", "move")]
            self.same(branches_late(plain.book, doc=of), due)
            for _ in range(6):
                chance.shuffle(growing)
                self.same(branches_late(plain.book, doc=of, came=tuple(growing)), due)
            alone = tuple(deed for deed in plain.book if doc(deed) == of)
            self.same(branches_late(alone, doc=of, came=tuple(growing)), due)
            nodes += len(due)
        self.assertGreater(nodes, 100)


if __name__ == "__main__":
    unittest.main()
