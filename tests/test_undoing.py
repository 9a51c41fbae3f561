import unittest

from coeditry.books import is_book
from coeditry.standing import reason_of
from coeditry.undoing import effect_of, redoable, redoing, undoable, undoing
from coeditry.undone import works
from coeditry.views import view
from tests.plain import UNDONE
from tests.samples import Odd
from tests.story import Refusing, odd_keys, opened
from tests.test_texts import TextTest, names
from tests.worlds import ALL, HANDS, LARGE, keys


class UndoTest(TextTest):
    def make(self, hand, *what):
        return self.story.make(hand, (what[0], self.of) + what[1:])

    def may(self, hand, *due):
        book = self.story.book()
        self.same(undoable(book, hand=hand), due)
        self.same(undoable(hand=hand, book=book), due)

    def may_again(self, hand, *due):
        book = self.story.book()
        self.same(redoable(book, hand=hand), due)
        self.same(redoable(hand=hand, book=book), due)

    def effect(self, one, gone, come):
        book = self.story.book()
        self.same(effect_of(book, one), (tuple(gone), tuple(come)))
        self.same(effect_of(key=one, book=book), (tuple(gone), tuple(come)))

    def refuses(self, one, *calls):
        for call in calls:
            self.no_key(one, call, self.story.book(), one)


class UndoableTest(UndoTest):
    def test_none(self):
        self.may("ann")
        self.may("cy")
        self.may_again("ann")
        self.same(undoable((), hand="ann"), ())
        self.same(redoable((), hand="ann"), ())

    def test_of_each_word_of_a_text(self):
        one = self.put(None, "abc")
        cut = self.cut((one, 0))
        look = self.make("ann", "look", names(one, 1), "red", True)
        said = self.make("ann", "say", names(one, 1), "x")
        close = self.turn("close", said)
        left = self.suggest("cut", names(one, 2))
        mark = self.make("ann", "mark", None)
        self.may("ann", one, cut, look, said, close, left, mark)
        self.may("bob")
        for gone in (one, cut, look, said, close, left, mark):
            self.turn("undo", gone)
        self.may("ann")
        self.may_again("ann", one, cut, look, said, close, left, mark)
        self.turn("redo", look)
        self.may("ann", look)
        self.may_again("ann", one, cut, said, close, left, mark)

    def test_of_rows_and_trees(self):
        self.story, self.of = opened("rows", bob="own")
        row = self.make("bob", "row")
        put, drop = self.make("bob", "set", row, "cost", 1), self.make("bob", "drop", row)
        self.may("bob", row, put, drop)
        self.story, self.of = opened("tree", bob="own")
        node = self.make("bob", "node", None, "leaf")
        move = self.make("bob", "move", node, node)
        self.may("bob", node, move)
        self.may("ann")

    def test_not_for_good_ones(self):
        left = self.suggest("put", None, "x")
        take = self.turn("take", left)
        other = self.suggest("put", None, "y")
        refuse = self.turn("refuse", other)
        undo = self.turn("undo", self.put(None, "z"))
        self.may("ann")
        self.refuses(left, undoing, redoing, effect_of)
        for one in (self.of, ("ann", 1), take, refuse, undo, other):
            self.refuses(one, undoing, redoing, effect_of)

    def test_a_suggestion_that_was_withdrawn_then_taken(self):
        left = self.suggest("put", None, "x")
        self.turn("undo", left)
        self.may_again("ann", left)
        self.turn("take", left, "bob")
        self.may_again("ann")

    def test_by_levels_taken_back(self):
        one = self.put(None, "ab", "bob")
        said = self.make("bob", "say", names(one, 0), "x")
        mark = self.make("bob", "mark", None)
        left = self.suggest("put", None, "y", hand="bob")
        undone = self.put(None, "z", "bob")
        self.turn("undo", undone, "bob")
        self.may("bob", one, said, mark, left)
        self.may_again("bob", undone)
        self.make("ann", "give", "bob", "suggest")
        self.may("bob", said, mark, left)
        self.may_again("bob")
        self.refuses(one, undoing, redoing, effect_of)
        self.refuses(undone, undoing, redoing)
        self.make("ann", "give", "bob", "tell")
        self.may("bob", said, mark)
        self.make("ann", "give", "bob", "see")
        self.may("bob", mark)
        self.make("ann", "give", "bob", "none")
        self.may("bob")
        self.make("ann", "give", "bob", "own")
        self.may("bob", one, said, mark, left)
        self.may_again("bob", undone)

    def test_of_all_documents_rising(self):
        one = self.put(None, "ab")
        other = self.story.make("bob", ("open", "rows"))
        self.story.make("bob", ("give", other, "ann", "change"))
        row = self.story.make("ann", ("row", other))
        mark = self.make("ann", "mark", None)
        self.may("ann", one, row, mark)

    def test_that_do_not_stand(self):
        outs = [self.put(None, "x", "cy"), self.put((self.of, 0), "x"), self.cut((self.of, 0))]
        self.may("ann")
        self.may("cy")
        for out in outs:
            self.refuses(out, undoing, redoing, effect_of)

    def test_by_name_alone(self):
        for call in (undoable, redoable):
            with self.assertRaises(TypeError):
                call(self.story.book(), "ann")


class UndoingTest(UndoTest):
    def test_the_deed_that_is_made(self):
        one = self.put(None, "ab")
        self.cut((one, 0), hand="bob")
        book = self.story.book()
        told = undoing(book, one)
        more = ("ann", 3, 4, (("ann", 3), ("bob", 1)), ("undo", self.of, one))
        self.same(told, tuple(sorted(book + (more,))))
        self.same(undoing(key=one, book=book), told)
        self.assertIsNone(reason_of(told, ("ann", 3)))
        self.assertIs(works(told, one), False)
        again = redoing(told, one)
        self.same(again, tuple(sorted(told + (("ann", 4, 5, (("ann", 4), ("bob", 1)), ("redo", self.of, one)),))))
        self.same(redoing(key=one, book=told), again)
        self.assertIs(works(again, one), True)
        self.same(view(again, hand="ann"), view(book, hand="ann"))
        self.same(self.story.book(), book)

    def test_keys_that_are_not(self):
        one = self.put(None, "ab")
        undone = self.put(None, "cd")
        self.turn("undo", undone)
        self.refuses(one, redoing)
        self.refuses(undone, undoing, effect_of)
        redoing(self.story.book(), undone)
        for thing in [self.of, list(one), (one, 0), ("ann", True), ("ann", 99), Odd()] + odd_keys():
            self.refuses(thing, undoing, redoing, effect_of)
            for call in (undoing, redoing, effect_of):
                self.no_key(thing, call, (), thing)


class EffectTest(UndoTest):
    def test_of_a_put(self):
        one = self.put(None, "abc")
        self.make("ann", "look", names(one, 1), "red", True)
        two = self.put((one, 0), "x", "bob")
        self.cut((one, 2))
        self.effect(one, [((one, 0), ()), ((one, 1), ("red",))], [])
        self.effect(two, [((two, 0), ())], [])

    def test_of_a_cut(self):
        one = self.put(None, "abcd")
        first = self.cut((one, 0), (one, 1))
        self.effect(first, [], [((one, 0), ()), ((one, 1), ())])
        then = self.cut((one, 1), (one, 2))
        self.effect(first, [], [((one, 0), ())])
        self.effect(then, [], [((one, 2), ())])
        self.make("ann", "look", names(one, 2), "red", True)
        self.effect(then, [], [((one, 2), ("red",))])

    def test_of_a_look(self):
        one = self.put(None, "ab")
        look = self.make("ann", "look", names(one, 0, 1), "red", True)
        self.effect(look, [((one, 0), ("red",)), ((one, 1), ("red",))], [((one, 0), ()), ((one, 1), ())])
        self.make("bob", "look", names(one, 0), "red", True)
        self.effect(look, [((one, 1), ("red",))], [((one, 1), ())])
        self.cut((one, 1))
        self.effect(look, [], [])
        off = self.make("ann", "look", names(one, 0), "red", False)
        self.effect(off, [((one, 0), ())], [((one, 0), ("red",))])

    def test_of_a_say_a_close_a_mark_a_suggest(self):
        one = self.put(None, "ab")
        said = self.make("ann", "say", names(one, 0), "x")
        for none in (said, self.turn("close", said), self.make("ann", "mark", None), self.suggest("put", None, "x"),
                     self.suggest("cut", names(one, 0))):
            self.effect(none, [], [])

    def test_rising_by_things_not_by_the_row(self):
        one = self.put(None, "a")
        two = self.put(None, "b")
        cut = self.cut((one, 0), (two, 0))
        self.effect(cut, [], [((one, 0), ()), ((two, 0), ())])

    def test_of_rows(self):
        self.story, self.of = opened("rows", bob="own")
        row, other = self.make("ann", "row"), self.make("ann", "row")
        first = self.make("ann", "set", row, "cost", 1)
        then = self.make("ann", "set", row, "cost", 2)
        name = self.make("ann", "set", row, "name", "x")
        both = (("cost", 2, ()), ("name", "x", ()))
        self.effect(first, [], [])
        self.effect(then, [(row, both)], [(row, (("cost", 1, ()), ("name", "x", ())))])
        self.effect(name, [(row, both)], [(row, both[:1])])
        self.effect(row, [(row, both)], [])
        self.effect(other, [(other, ())], [])
        drop = self.make("ann", "drop", row)
        self.effect(drop, [], [(row, both)])
        self.effect(then, [], [])
        self.effect(row, [], [])

    def test_of_a_clash(self):
        self.story, self.of = opened("rows", bob="own")
        row = self.make("ann", "row")
        bobs = self.story.make("bob", ("set", self.of, row, "cost", 7), [row])
        anns = self.story.make("ann", ("set", self.of, row, "cost", 8), [row])
        shown = (row, (("cost", 7, (8, 7)),))
        self.effect(anns, [shown], [(row, (("cost", 7, ()),))])
        self.effect(bobs, [shown], [(row, (("cost", 8, ()),))])

    def test_of_trees(self):
        self.story, self.of = opened("tree", bob="own")
        one = self.make("ann", "node", None, "one")
        two = self.make("ann", "node", one, "two")
        three = self.make("ann", "node", None, "three")
        move = self.make("ann", "move", one, three)
        self.effect(move, [(one, (three, "one"))], [(one, (None, "one"))])
        self.effect(one, [(one, (three, "one")), (two, (one, "two"))], [])
        self.effect(three, [(one, (three, "one")), (two, (one, "two")), (three, (None, "three"))], [])
        idle = self.make("ann", "move", three, two)
        self.effect(idle, [], [])
        # Without the first move the second one is no more idle.
        self.effect(move, [(one, (three, "one")), (three, (None, "three"))],
                    [(one, (None, "one")), (three, (two, "three"))])

    def test_a_pair_at_another_place_is_in_neither(self):
        self.story, self.of = opened("tree")
        one, two = self.make("ann", "node", None, "one"), self.make("ann", "node", None, "two")
        again = self.make("ann", "move", one, None)
        self.effect(again, [], [])
        self.assertLess(one, two)

    def test_of_its_document_alone(self):
        one = self.put(None, "ab")
        other = self.story.make("ann", ("open", "text"))
        self.story.make("ann", ("put", other, None, "cd"))
        self.effect(one, [((one, 0), ()), ((one, 1), ())], [])


class ManyTest(Refusing):
    def test_of_many_books(self):
        seen = {}
        for plain in ALL + LARGE:
            table = {(hand, by): plain.turnable(hand, by) for hand in HANDS for by in ("undo", "redo")}
            for hand in HANDS:
                self.same(undoable(plain.book, hand=hand), table[hand, "undo"])
                self.same(redoable(plain.book, hand=hand), table[hand, "redo"])
            for one in keys(plain):
                self.by_key(plain, one, table, seen)
        words = {word for word, _ in seen}
        self.assertEqual(words | {"open"}, set(UNDONE) | {"open"})
        self.assertGreater(sum(many for (_, by), many in seen.items() if by == "redo"), 10, seen)

    def by_key(self, plain, one, table, seen):
        for by, call in (("undo", undoing), ("redo", redoing)):
            if one in table[one[0], by]:
                told = call(plain.book, one)
                self.same(told, plain.turned(one, by))
                seen[plain.table[one][4][0], by] = seen.get((plain.table[one][4][0], by), 0) + 1
            else:
                self.no_key(one, call, plain.book, one)
        if one in table[one[0], "undo"]:
            self.same(effect_of(plain.book, one), plain.effect(one))
        else:
            self.no_key(one, effect_of, plain.book, one)

    def test_what_may_come_and_go(self):
        """What [77] promises of each word."""
        for plain in ALL + LARGE:
            for hand in HANDS:
                for one in undoable(plain.book, hand=hand):
                    gone, come = effect_of(plain.book, one)
                    self.by_word(plain, one, [thing for thing, _ in gone], [thing for thing, _ in come])

    def by_word(self, plain, one, gone, come):
        what = plain.table[one][4]
        of = what[1]
        if what[0] == "put":
            self.assertEqual(come, [])
            self.assertEqual(gone, [name for name in sorted(plain.living(of)) if name[0] == one])
        elif what[0] == "cut":
            self.assertEqual(gone, [])
            self.assertEqual(come, [name for name in what[2] if plain.dead_by(of, name) == (one,)])
        elif what[0] == "look":
            self.assertEqual(gone, come)
            self.assertTrue(set(gone) <= set(what[2]))
        elif what[0] == "set":
            self.assertIn((gone, come), [([], []), ([what[2]], [what[2]])])
        elif what[0] == "row":
            self.assertTrue(gone in ([], [one]) and come == [])
        elif what[0] == "drop":
            self.assertTrue(gone == [] and come in ([], [what[2]]))
        elif what[0] not in ("node", "move"):
            self.assertEqual((gone, come), ([], []))

    def test_undone_and_done_again_a_view_is_as_it_was(self):
        for plain in ALL[::2]:
            for hand in HANDS:
                for one in undoable(plain.book, hand=hand):
                    again = redoing(undoing(plain.book, one), one)
                    self.assertTrue(is_book(again))
                    for other in HANDS:
                        now, was = view(again, hand=other, age=10 ** 6), view(plain.book, hand=other, age=10 ** 6)
                        self.same(now, was)


if __name__ == "__main__":
    unittest.main()
