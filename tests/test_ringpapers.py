import unittest

from coeditry.ringchecker import lets_ring
from coeditry.ringpapers import ring_paper
from coeditry.trees import idle_moves
from tests.samples import THINGS, Odd
from tests.test_trees import TreeTest, no_trees
from tests.story import Refusing, odd_keys
from tests.worlds import ALL, LARGE, alone, docs, keys


class RingTest(TreeTest):
    def ring(self, one, due):
        book = self.story.book()
        self.same(ring_paper(book, one, doc=self.of), due)
        self.same(ring_paper(key=one, doc=self.of, book=book), due)
        if due is not None:
            self.lets(one, due)

    def lets(self, one, paper):
        book = self.story.book()
        self.same(lets_ring(book, one, paper, doc=self.of), len(paper))
        self.same(lets_ring(thing=paper, doc=self.of, key=one, book=book), len(paper))

    def refused(self, word, at, one, thing):
        self.no_paper(word, at, lets_ring, self.story.book(), one, thing, doc=self.of)


class PapersTest(RingTest):
    def test_beneath_itself(self):
        one = self.node(None, "one")
        move = self.move(one, one)
        self.ring(move, (one,))

    def test_below_by_one_and_by_several(self):
        one = self.node(None, "one")
        two = self.node(one, "two")
        three = self.node(two, "three")
        four = self.node(three, "four")
        self.ring(self.move(one, two), (two, one))
        self.ring(self.move(one, four), (four, three, two, one))
        self.ring(self.move(two, four), (four, three, two))
        self.ring(self.move(four, four), (four,))

    def test_a_move_that_did_something(self):
        one, two = self.node(None, "one"), self.node(None, "two")
        self.ring(self.move(one, two), None)
        self.ring(self.move(one, None), None)
        self.ring(self.move(one, None), None)
        self.ring(self.move(two, one), None)

    def test_by_what_was_done_ahead_not_by_what_comes_behind(self):
        one = self.node(None, "one")
        two = self.node(one, "two")
        idle = self.move(one, two)
        self.ring(idle, (two, one))
        self.move(two, None)
        self.ring(idle, (two, one))
        again = self.move(one, two)
        self.ring(again, None)
        self.ring(idle, (two, one))
        self.ring(self.move(two, one), (one, two))

    def test_a_move_more_ahead_in_order_breaks_the_ring(self):
        one = self.node(None, "one")
        two = self.node(one, "two")
        for _ in range(3):
            self.story.make("bob", ("mark", self.of, None))
        idle = self.move(one, two, "bob")
        self.ring(idle, (two, one))
        self.move(two, None, "ann", [])
        self.ring(idle, None)

    def test_through_a_node_that_is_undone(self):
        one = self.node(None, "one")
        two = self.node(one, "two")
        three = self.node(two, "three")
        self.turn("undo", two)
        self.ring(self.move(one, three), None)
        self.ring(self.move(two, one), (one, three, two))
        self.ring(self.move(one, None), None)
        self.ring(self.move(two, one), None)
        self.ring(self.move(one, three), (three, two, one))

    def test_idle_moves_move_nothing_for_later_ones(self):
        one = self.node(None, "one")
        two = self.node(one, "two")
        self.move(one, two)
        self.ring(self.move(two, one), None)
        self.ring(self.move(one, two), (two, one))

    def test_undone_and_done_again(self):
        one = self.node(None, "one")
        idle = self.move(one, one)
        self.turn("undo", idle)
        self.no_key(idle, ring_paper, self.story.book(), idle, doc=self.of)
        self.no_key(idle, lets_ring, self.story.book(), idle, (one,), doc=self.of)
        self.turn("redo", idle)
        self.ring(idle, (one,))

    def test_keys_of_no_working_move(self):
        one = self.node(None, "one")
        undone = self.move(one, one)
        self.turn("undo", undone)
        out = self.move(one, one, "cy")
        gone = self.move(one, ("ann", 99))
        other = self.story.make("ann", ("open", "tree"))
        apart = self.story.make("ann", ("node", other, None, "one"))
        moved = self.story.make("ann", ("move", other, apart, apart))
        book = self.story.book()
        for thing in [self.of, one, undone, out, gone, apart, moved, list(one), (one, 0), Odd()] + odd_keys():
            self.no_key(thing, ring_paper, book, thing, doc=self.of)
            for handed in ((one,), None, ()):
                self.no_key(thing, lets_ring, book, thing, handed, doc=self.of)
        self.same(ring_paper(book, moved, doc=other), (apart,))

    def test_a_document_that_is_no_tree(self):
        one = self.node(None, "one")
        move = self.move(one, one)
        for thing in no_trees(self.story):
            for of in (move, one, None):
                self.no_key(thing, ring_paper, self.story.book(), of, doc=thing)
                for handed in ((one,), None):
                    self.no_key(thing, lets_ring, self.story.book(), of, handed, doc=thing)
                    self.no_key(thing, lets_ring, (), of, handed, doc=thing)

    def test_the_document_by_its_name_alone(self):
        one = self.node(None, "one")
        move = self.move(one, one)
        with self.assertRaises(TypeError):
            ring_paper(self.story.book(), move, self.of)
        with self.assertRaises(TypeError):
            lets_ring(self.story.book(), move, (one,), self.of)


class CheckerTest(RingTest):
    def setUp(self):
        RingTest.setUp(self)
        self.zero = self.node(None, "zero")
        self.one = self.node(self.zero, "one")
        self.two = self.node(self.one, "two")
        self.three = self.node(self.two, "three")
        self.apart = self.node(None, "apart")
        self.idle = self.move(self.one, self.three)
        self.works = self.move(self.apart, self.three)

    def test_let_by(self):
        self.lets(self.idle, (self.three, self.two, self.one))

    def test_shape(self):
        ring = (self.three, self.two, self.one)
        bent = [(), [], list(ring), ring[:2] + (None,), ring[:2] + (list(self.one),), (ring,), ring[0],
                (self.three, ("ann", True)), ((self.three, 0),), (self.three, ("ann", -1)), (("Ann", 0),), Odd()]
        for thing in bent + [thing for thing in THINGS if thing not in [("ann", 0)]]:
            if not (isinstance(thing, tuple) and thing and all(type(one) is tuple and len(one) == 2
                                                               and type(one[0]) is str for one in thing)):
                self.refused("shape", -1, self.idle, thing)

    def test_first(self):
        for thing in ((self.two, self.one), (self.one,), (("zz", 0),), (self.of,), (self.apart, self.two, self.one)):
            self.refused("first", -1, self.idle, thing)

    def test_beneath(self):
        three, two, one, zero = self.three, self.two, self.one, self.zero
        for at, thing in ((1, (three, one)), (1, (three, three)), (2, (three, two, two)), (2, (three, two, zero)),
                          (3, (three, two, one, one)), (4, (three, two, one, zero, zero)), (1, (three, ("zz", 0), one)),
                          (4, (three, two, one, zero, ("ann", 0))), (1, (three, self.apart, one))):
            self.refused("beneath", at, self.idle, thing)

    def test_last(self):
        three, two, one, zero = self.three, self.two, self.one, self.zero
        for thing in ((three,), (three, two), (three, two, one, zero)):
            self.refused("last", -1, self.idle, thing)

    def test_of_a_move_that_is_not_idle(self):
        three, two, one, zero = self.three, self.two, self.one, self.zero
        self.refused("last", -1, self.works, (three, two, one, zero))
        self.refused("last", -1, self.works, (three,))
        self.refused("first", -1, self.works, (self.apart,))
        self.refused("beneath", 1, self.works, (three, self.apart))
        up = self.move(self.apart, None)
        self.refused("first", -1, up, (self.apart,))
        self.refused("first", -1, up, (three, self.apart))
        self.refused("shape", -1, up, (None,))

    def test_which_goes_first(self):
        three, two = self.three, self.two
        self.refused("shape", -1, self.idle, (two, two, None))
        self.refused("first", -1, self.idle, (two, two))
        self.refused("beneath", 1, self.idle, (three, three))
        self.refused("beneath", 1, self.idle, (three, three, two, two))

    def test_as_it_was_not_as_it_is(self):
        self.move(self.two, None)
        self.lets(self.idle, (self.three, self.two, self.one))
        self.refused("beneath", 1, self.idle, (self.three, self.one))

    def test_what_is_handed_in_stays(self):
        thing = [self.three, [self.two]]
        self.refused("shape", -1, self.idle, thing)
        self.assertEqual(thing, [self.three, [self.two]])


class ManyTest(Refusing):
    def test_of_many_books(self):
        idle = 0
        for plain in ALL + LARGE:
            for of in docs(plain, "tree"):
                moves = [deed[:2] for deed in plain.working(of, "move")]
                for one in moves:
                    due = plain.ring(one)
                    self.same(ring_paper(plain.book, one, doc=of), due)
                    self.same(ring_paper(alone(plain, of), one, doc=of), due)
                    self.assertEqual(due is not None, one in idle_moves(plain.book, doc=of))
                    self.look(plain, of, one, due)
                    idle += due is not None
                for one in keys(plain):
                    if one not in moves:
                        self.no_key(one, ring_paper, plain.book, one, doc=of)
                        self.no_key(one, lets_ring, plain.book, one, ((one,),), doc=of)
        self.assertGreater(idle, 20)

    def look(self, plain, of, one, due):
        """All papers of nodes up to three are let by just where they are the one."""
        if due is not None:
            self.same(lets_ring(plain.book, one, due, doc=of), len(due))
            self.no_paper("first" if len(due) == 1 else "last", -1, lets_ring, plain.book, one,
                          due[:-1] or (("zz", 0),), doc=of)
        nodes = [deed[:2] for deed in plain.standing(of) if deed[4][0] == "node"][:4]
        for paper in [(node,) for node in nodes] + [(node, up) for node in nodes for up in nodes]:
            if paper == due:
                continue
            with self.assertRaises(ValueError):
                lets_ring(plain.book, one, paper, doc=of)


if __name__ == "__main__":
    unittest.main()
