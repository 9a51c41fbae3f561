import unittest

from coeditry.trees import branches, idle_moves, is_there, parent_of
from tests.chance import ALL, PLAINS
from tests.naive import BOOKS, doc, key
from tests.plain import Plain
from tests.samples import Odd
from tests.story import Refusing, odd_keys, opened


def no_trees(story):
    """KEYS, and other things, that are no tree's of the Story."""
    other = [story.make("ann", ("open", sort)) for sort in ("text", "rows")]
    bare = story.make("ann", ("row", ("zz", 0)))
    return other + [bare, ("zz", 0), ("ann", 1), ["ann", 0], ("ann", False)] + odd_keys()


class TreeTest(Refusing):
    """A tree of ann's, which bob may change."""

    def setUp(self):
        self.story, self.of = opened("tree", bob="change")

    def node(self, parent, label, hand="ann", knew_of=None):
        return self.story.make(hand, ("node", self.of, parent, label), knew_of)

    def move(self, node, parent, hand="ann", knew_of=None):
        return self.story.make(hand, ("move", self.of, node, parent), knew_of)

    def turn(self, word, one, hand="ann"):
        return self.story.make(hand, (word, self.of, one))

    def branches(self, *due):
        """All nodes that are THERE are these, and these alone: (node, parent)."""
        book = self.story.book()
        due = tuple((node, parent, self.story.deed(node)[4][3]) for node, parent in due)
        self.same(branches(book, doc=self.of), due)
        self.same(branches(doc=self.of, book=book), due)
        for node in [one for one in self.story.table if self.story.deed(one)[4][0] == "node"]:
            if self.story.deed(node)[4][1] == self.of and node[0] != "cy":
                told = is_there(book, node, doc=self.of)
                self.assertIs(told, node in [row[0] for row in due])
                self.assertIs(is_there(key=node, doc=self.of, book=book), told)
        for node, parent, _ in due:
            self.beneath(node, parent)

    def beneath(self, node, parent):
        book = self.story.book()
        self.same(parent_of(book, node, doc=self.of), parent)
        self.same(parent_of(key=node, doc=self.of, book=book), parent)

    def idle(self, *keys):
        book = self.story.book()
        self.same(idle_moves(book, doc=self.of), tuple(sorted(keys)))
        self.same(idle_moves(doc=self.of, book=book), tuple(sorted(keys)))


class NodesTest(TreeTest):
    def test_none(self):
        self.branches()
        self.idle()

    def test_at_the_top(self):
        one, two = self.node(None, "one"), self.node(None, "two")
        self.branches((one, None), (two, None))

    def test_in_order_not_by_keys(self):
        bobs = self.node(None, "bobs", "bob", [("ann", 1)])
        anns = self.node(None, "anns", "ann", [])
        more = self.node(None, "more")
        self.assertLess(more, bobs)
        self.branches((anns, None), (bobs, None), (more, None))

    def test_beneath_others(self):
        one, two = self.node(None, "one"), self.node(None, "two")
        three = self.node(one, "three")
        four = self.node(three, "four")
        five = self.node(one, "five")
        self.branches((one, None), (three, one), (four, three), (five, one), (two, None))

    def test_what_does_not_stand_is_no_node(self):
        one = self.node(None, "one")
        self.node(one, "no", "cy")
        self.node(("zz", 0), "no", "cy")
        self.branches((one, None))

    def test_undone(self):
        one, two = self.node(None, "one"), self.node(None, "two")
        three = self.node(one, "three")
        four = self.node(three, "four")
        self.turn("undo", three)
        self.branches((one, None), (two, None))
        self.beneath(three, None)
        self.beneath(four, three)
        five = self.node(three, "five")
        self.beneath(five, three)
        self.branches((one, None), (two, None))
        self.turn("redo", three)
        self.branches((one, None), (three, one), (four, three), (five, three), (two, None))

    def test_of_another_document(self):
        other = self.story.make("ann", ("open", "tree"))
        apart = self.story.make("ann", ("node", other, None, "one"))
        self.branches()
        for call in (is_there, parent_of):
            self.no_key(apart, call, self.story.book(), apart, doc=self.of)
        self.same(branches(self.story.book(), doc=other), ((apart, None, "one"),))


class MovesTest(TreeTest):
    def setUp(self):
        TreeTest.setUp(self)
        self.one = self.node(None, "one")
        self.two = self.node(None, "two")
        self.three = self.node(self.one, "three")
        self.four = self.node(self.three, "four")

    def test_beneath_another(self):
        self.move(self.three, self.two)
        self.branches((self.one, None), (self.two, None), (self.three, self.two), (self.four, self.three))
        self.move(self.four, None)
        self.branches((self.one, None), (self.two, None), (self.three, self.two), (self.four, None))
        self.move(self.one, self.four)
        self.branches((self.two, None), (self.three, self.two), (self.four, None), (self.one, self.four))
        self.idle()

    def test_beneath_itself(self):
        idle = [self.move(self.one, self.one), self.move(self.four, self.four)]
        self.branches((self.one, None), (self.three, self.one), (self.four, self.three), (self.two, None))
        self.idle(*idle)

    def test_below_itself(self):
        idle = [self.move(self.one, self.three), self.move(self.one, self.four), self.move(self.three, self.four)]
        self.branches((self.one, None), (self.three, self.one), (self.four, self.three), (self.two, None))
        self.idle(*idle)

    def test_to_the_parent_that_it_has(self):
        five = self.node(self.one, "five")
        self.move(self.three, self.one)
        self.branches((self.one, None), (five, self.one), (self.three, self.one), (self.four, self.three),
                      (self.two, None))
        self.move(self.one, None)
        self.branches((self.two, None), (self.one, None), (five, self.one), (self.three, self.one),
                      (self.four, self.three))
        self.idle()

    def test_an_idle_move_leaves_its_place(self):
        five = self.node(self.one, "five")
        idle = self.move(self.three, self.four)
        self.branches((self.one, None), (self.three, self.one), (self.four, self.three), (five, self.one),
                      (self.two, None))
        self.idle(idle)

    def test_apart_the_later_in_order_is_idle(self):
        all_of = [self.four]
        later = self.move(self.one, self.two, "bob", all_of)
        sooner = self.move(self.two, self.one, "ann", all_of)
        self.branches((self.one, None), (self.three, self.one), (self.four, self.three), (self.two, self.one))
        self.idle(later)
        self.turn("undo", sooner)
        self.branches((self.two, None), (self.one, self.two), (self.three, self.one), (self.four, self.three))
        self.idle()
        self.turn("redo", sooner)
        self.idle(later)

    def test_idle_moves_rise_by_keys(self):
        bobs = self.move(self.one, self.one, "bob")
        anns = self.move(self.one, self.one)
        self.assertEqual(idle_moves(self.story.book(), doc=self.of), (anns, bobs))

    def test_moves_undone(self):
        move = self.move(self.three, self.two)
        self.turn("undo", move)
        self.branches((self.one, None), (self.three, self.one), (self.four, self.three), (self.two, None))
        idle = self.move(self.one, self.one)
        self.turn("undo", idle)
        self.idle()

    def test_moves_that_do_not_stand(self):
        self.move(self.three, self.two, "cy")
        self.move(self.three, ("zz", 0))
        self.branches((self.one, None), (self.three, self.one), (self.four, self.three), (self.two, None))

    def test_a_node_undone_is_moved(self):
        self.turn("undo", self.three)
        self.beneath(self.three, None)
        self.move(self.three, self.two)
        self.beneath(self.three, self.two)
        self.branches((self.one, None), (self.two, None))
        self.move(self.two, self.three)
        self.move(self.two, self.four)
        self.branches((self.one, None), (self.two, None))
        self.assertEqual(len(idle_moves(self.story.book(), doc=self.of)), 2)
        self.turn("redo", self.three)
        self.branches((self.one, None), (self.two, None), (self.three, self.two), (self.four, self.three))

    def test_beneath_a_node_undone(self):
        self.turn("undo", self.one)
        self.branches((self.two, None))
        self.beneath(self.one, None)
        self.beneath(self.three, self.one)
        self.move(self.two, self.one)
        self.branches()
        self.beneath(self.two, self.one)
        self.move(self.four, None)
        self.branches((self.four, None))
        self.turn("redo", self.one)
        self.branches((self.one, None), (self.three, self.one), (self.two, self.one), (self.four, None))


class AskingTest(TreeTest):
    def test_keys_of_no_node(self):
        one = self.node(None, "one")
        fails = self.node(None, "no", "cy")
        move = self.move(one, None)
        for thing in [fails, move, self.of, ("ann", 40), list(one), [one], (one, 0), Odd()] + odd_keys():
            for call in (is_there, parent_of):
                self.no_key(thing, call, self.story.book(), thing, doc=self.of)

    def test_of_what_nothing_put(self):
        one = self.node(None, "one")
        self.turn("undo", one)
        self.beneath(one, None)
        self.branches()

    def test_a_document_that_is_no_tree(self):
        one = self.node(None, "one")
        for thing in no_trees(self.story):
            for call in (branches, idle_moves):
                self.no_key(thing, call, self.story.book(), doc=thing)
            for call in (is_there, parent_of):
                for asked in (one, None, ["a"]):
                    self.no_key(thing, call, self.story.book(), asked, doc=thing)

    def test_the_document_by_its_name_alone(self):
        for call in (branches, idle_moves):
            with self.assertRaises(TypeError):
                call(self.story.book(), self.of)
        for call in (is_there, parent_of):
            with self.assertRaises(TypeError):
                call(self.story.book(), ("ann", 2), self.of)


class ManyTest(Refusing):
    def test_of_many_books(self):
        nodes, idle = 0, 0
        for plain in ALL + [Plain(book) for book in BOOKS]:
            for of in [key(deed) for deed in plain.book if deed[4] == ("open", "tree")]:
                put, due = plain.tree(of)
                self.same(branches(plain.book, doc=of), plain.branches(of))
                self.same(idle_moves(plain.book, doc=of), due)
                idle += len(due)
                for node in [key(deed) for deed in plain.standing(of) if deed[4][0] == "node"]:
                    self.same(parent_of(plain.book, node, doc=of), put.get(node, (None,))[0])
                    self.same(is_there(plain.book, node, doc=of), plain.is_node_there(of, node))
                    nodes += 1
        self.assertGreater(nodes, 100)
        self.assertGreater(idle, 20)

    def test_nobody_is_below_itself_and_each_there_stands_once(self):
        for plain in PLAINS["tree"]:
            told = branches(plain.book, doc=("ann", 0))
            nodes = [row[0] for row in told]
            self.assertEqual(len(set(nodes)), len(nodes))
            for at, (_, parent, _) in enumerate(told):
                self.assertTrue(parent is None or parent in nodes[:at])

    def test_a_move_undone_leaves_the_tree_as_it_would_be_without_it(self):
        turned = 0
        for plain in PLAINS["tree"]:
            of = ("ann", 0)
            for deed in plain.working(of, "undo"):
                move = plain.table[deed[4][2]]
                is_last = plain.turn(key(move)) == deed
                if move[4][0] == "move" and is_last:
                    less = Plain(plain.book)
                    less.working = lambda of, *words: [one for one in plain.working(of, *words) if one != move]
                    self.same(branches(plain.book, doc=of), less.branches(of))
                    turned += 1
        self.assertGreater(turned, 2)

    def test_other_documents_turn_nothing(self):
        for plain in PLAINS["tree"]:
            alone = tuple(deed for deed in plain.book if doc(deed) == ("ann", 0))
            for call in (branches, idle_moves):
                self.same(call(alone, doc=("ann", 0)), call(plain.book, doc=("ann", 0)))


if __name__ == "__main__":
    unittest.main()
