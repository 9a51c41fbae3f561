import random
import unittest

from coeditry.standing import level_of, reason_of, reasons, standing, working
from tests.chance import ALL
from tests.naive import BOOKS, doc, key, knew, make
from tests.plain import LEVELS, Plain, place, word
from tests.samples import like
from tests.story import Refusing, Story, odd_keys, opened

# The least LEVEL that each word needs.
NEEDS = {
    "mark": "see", "say": "tell", "close": "tell", "suggest": "suggest", "give": "own", "put": "change",
    "cut": "change", "look": "change", "take": "change", "refuse": "change", "row": "change", "set": "change",
    "drop": "change", "node": "change", "move": "change",
}


class ReasonTest(Refusing):
    def reason(self, story, one, due):
        book = story.book()
        self.same(reason_of(book, one), due, story.deed(one))
        self.same(reason_of(key=one, book=book), due)

    def made(self, story, hand, what, due, knew_of=None):
        one = story.make(hand, what, knew_of)
        self.reason(story, one, due)
        return one


def a_text(**levels):
    """A text with a put of "abc", a suggested put and a suggested cut, both left, and a comment, all by ann."""
    story, of = opened("text", **levels)
    story.put = story.make("ann", ("put", of, None, "abc"))
    story.more = story.make("ann", ("suggest", of, ("put", (story.put, 0), "xy")))
    story.less = story.make("ann", ("suggest", of, ("cut", ((story.put, 1),))))
    story.said = story.make("ann", ("say", of, ((story.put, 0),), "well"))
    return story, of


def some_rows(**levels):
    story, of = opened("rows", **levels)
    story.row = story.make("ann", ("row", of))
    story.said = story.make("ann", ("say", of, story.row, "well"))
    return story, of


def a_tree(**levels):
    story, of = opened("tree", **levels)
    story.node = story.make("ann", ("node", of, None, "stem"))
    story.leaf = story.make("ann", ("node", of, story.node, "leaf"))
    return story, of


def whats_of_text(story, of):
    """A WHAT of each word and form that may stand in a text."""
    name = (story.put, 2)
    return [("give", of, "cy", "see"), ("put", of, None, "x"), ("put", of, name, "x"), ("cut", of, (name,)),
            ("look", of, (name,), "bold", False), ("say", of, (name,), "so"), ("close", of, story.said),
            ("suggest", of, ("put", None, "x")), ("suggest", of, ("put", name, "x")), ("suggest", of, ("cut", (name,))),
            ("take", of, story.more), ("take", of, story.less), ("refuse", of, story.more), ("mark", of, name),
            ("mark", of, None)]


def whats_of_rows(story, of):
    return [("give", of, "cy", "see"), ("row", of), ("set", of, story.row, "cost", 1), ("drop", of, story.row),
            ("say", of, story.row, "so"), ("close", of, story.said), ("mark", of, story.row), ("mark", of, None)]


def whats_of_tree(story, of):
    return [("node", of, None, "leaf"), ("node", of, story.leaf, "leaf"), ("move", of, story.leaf, None),
            ("move", of, story.node, story.leaf), ("say", of, story.leaf, "so"), ("mark", of, story.leaf)]


SORTS = [("text", a_text, whats_of_text), ("rows", some_rows, whats_of_rows), ("tree", a_tree, whats_of_tree)]


class EachWordTest(ReasonTest):
    def test_each_word_by_each_level(self):
        for _, begun, whats in SORTS:
            for level in LEVELS:
                story, of = begun(bob=level)
                for what in whats(story, of):
                    apart = Story()
                    apart.table = dict(story.table)
                    is_low = LEVELS.index(level) < LEVELS.index(NEEDS[what[0]])
                    self.made(apart, "bob", what, ("level", level) if is_low else None)

    def test_by_a_hand_that_was_given_nothing(self):
        for _, begun, whats in SORTS:
            story, of = begun()
            for what in whats(story, of):
                apart = Story()
                apart.table = dict(story.table)
                self.made(apart, "bob", what, ("level", "none"))

    def test_by_who_opened(self):
        for _, begun, whats in SORTS:
            story, of = begun()
            for what in whats(story, of):
                apart = Story()
                apart.table = dict(story.table)
                self.made(apart, "ann", what, None)

    def test_an_open_always_stands(self):
        for sort in ("text", "rows", "tree"):
            story = Story()
            for hand in ("ann", "bob", "ann"):
                self.made(story, hand, ("open", sort), None)

    def test_an_open_needs_no_level_and_no_other_deed(self):
        story = Story()
        story.make("ann", ("row", ("bob", 0)))
        self.made(story, "bob", ("open", "rows"), None)


class DocTest(ReasonTest):
    def test_there_is_no_open(self):
        story, of = a_text()
        for none in (("zz", 0), ("ann", 10 ** 6), story.put, story.said):
            for what in (("put", none, None, "x"), ("give", none, "bob", "own"), ("row", none), ("mark", none, None),
                         ("undo", none, story.put), ("say", none, ((story.put, 0),), "x"), ("take", none, story.more)):
                self.made(story, "ann", what, ("doc",))

    def test_a_deed_that_names_itself_as_its_document(self):
        story = Story()
        self.made(story, "ann", ("row", ("ann", 0)), ("doc",))
        self.made(story, "ann", ("give", ("ann", 1), "ann", "own"), ("doc",))

    def test_an_open_that_comes_behind_in_order(self):
        story = Story()
        early = story.make("ann", ("row", ("bob", 0)))
        late = story.make("cy", ("row", ("bob", 0)), [])
        of = story.make("bob", ("open", "rows"), [])
        give = story.make("bob", ("give", of, "cy", "change"))
        self.reason(story, early, ("doc",))
        self.reason(story, late, ("level", "none"))
        self.reason(story, of, None)
        self.reason(story, give, None)
        self.made(story, "cy", ("row", of), None)
        self.made(story, "ann", ("row", of), ("level", "none"))

    def test_an_open_that_knew_deeds_of_its_document(self):
        story = Story()
        early = story.make("cy", ("give", ("bob", 0), "cy", "own"))
        of = story.make("bob", ("open", "rows"))
        self.assertEqual(story.deed(of)[2], 1)
        self.reason(story, early, ("doc",))
        self.made(story, "cy", ("row", of), ("level", "none"))

    def test_each_word_of_another_sort(self):
        for sort, begun, whats in SORTS:
            words = {"text": "put cut look suggest take refuse", "rows": "row set drop", "tree": "node move"}[sort]
            for other, begun_other, _ in SORTS:
                if other == sort:
                    continue
                story, of = begun()
                doc_of_other = story.make("ann", ("open", other))
                for what in whats(story, of):
                    turned = (what[0], doc_of_other) + what[2:]
                    due = ("doc",) if what[0] in words.split() else None
                    if what[0] not in words.split() and what[0] != "give" and what[2] is not None:
                        due = ("there", 0)
                    self.made(story, "ann", turned, due)

    def test_the_words_that_go_with_any_sort(self):
        for _, begun, _ in SORTS:
            story, of = begun()
            give = self.made(story, "ann", ("give", of, "bob", "see"), None)
            mark = self.made(story, "bob", ("mark", of, None), None)
            self.made(story, "bob", ("undo", of, mark), None)
            self.made(story, "bob", ("redo", of, mark), None)
            self.made(story, "ann", ("undo", of, give), ("key",))

    def test_doc_goes_ahead_of_all(self):
        story, of = some_rows()
        self.made(story, "bob", ("put", of, ((("zz", 0)), 0), "x"), ("doc",))
        self.made(story, "bob", ("undo", ("zz", 0), ("zz", 1)), ("doc",))
        self.made(story, "bob", ("take", of, ("zz", 1)), ("doc",))


class LevelTest(ReasonTest):
    def test_given_and_taken_back(self):
        story, of = some_rows()
        self.made(story, "bob", ("row", of), ("level", "none"))
        for level in ("change", "see", "own", "none", "tell", "change"):
            story.make("ann", ("give", of, "bob", level))
            due = None if level in ("change", "own") else ("level", level)
            self.made(story, "bob", ("row", of), due)

    def test_given_by_another(self):
        story, of = some_rows(bob="own", cy="change")
        self.made(story, "cy", ("give", of, "cy", "own"), ("level", "change"))
        self.made(story, "bob", ("give", of, "cy", "see"), None)
        self.made(story, "cy", ("row", of), ("level", "see"))

    def test_a_give_that_does_not_stand_gives_nothing(self):
        story, of = some_rows()
        self.made(story, "bob", ("give", of, "bob", "own"), ("level", "none"))
        self.made(story, "bob", ("row", of), ("level", "none"))

    def test_to_who_opened(self):
        story, of = some_rows(bob="own")
        self.made(story, "bob", ("give", of, "ann", "see"), None)
        self.made(story, "ann", ("row", of), ("level", "see"))
        self.made(story, "ann", ("give", of, "ann", "own"), ("level", "see"))
        self.made(story, "bob", ("give", of, "bob", "none"), None)
        self.made(story, "bob", ("mark", of, None), ("level", "none"))

    def test_given_to_who_opened_ahead_of_the_open(self):
        story = Story()
        early = story.make("ann", ("give", ("bob", 0), "bob", "none"))
        of = story.make("bob", ("open", "rows"))
        self.reason(story, early, ("doc",))
        self.made(story, "bob", ("row", of), None)

    def test_of_another_document_nothing_is_given(self):
        story, of = some_rows()
        other = story.make("ann", ("open", "rows"))
        story.make("ann", ("give", other, "bob", "own"))
        self.made(story, "bob", ("row", of), ("level", "none"))
        self.made(story, "bob", ("row", other), None)

    def test_taken_back_late(self):
        # bob knew nothing of it; but by its count the one is ahead of it in ORDER, the other behind.
        story, of = some_rows(bob="change")
        ahead = story.make("bob", ("row", of))
        for _ in range(3):
            story.make("ann", ("mark", of, None), [])
        back = story.make("ann", ("give", of, "bob", "see"), [])
        behind = ahead
        while place(story.deed(behind)) < place(story.deed(back)):
            self.reason(story, behind, None)
            behind = story.make("bob", ("row", of), [])
        self.reason(story, behind, ("level", "see"))

    def test_the_last_one_in_order_counts_not_by_keys(self):
        story, of = some_rows(bob="own", cy="change")
        first = story.make("bob", ("give", of, "cy", "see"), [("ann", 4)])
        last = story.make("ann", ("give", of, "cy", "none"), [("ann", 4)])
        self.assertLess(place(story.deed(last)), place(story.deed(first)))
        self.made(story, "cy", ("row", of), ("level", "see"))

    def test_level_goes_ahead_of_there(self):
        story, of = a_text(bob="tell")
        self.made(story, "bob", ("cut", of, ((("zz", 0), 0),)), ("level", "tell"))
        self.made(story, "bob", ("say", of, ((("zz", 0), 0),), "x"), ("there", 0))
        self.made(story, "cy", ("mark", of, ("zz", 0)), ("level", "none"))

    def test_nothing_is_given_by_an_undone_look_but_what_stands(self):
        # What is UNDONE still stands, so may be named.
        story, of = a_text(bob="change")
        story.make("ann", ("undo", of, story.put))
        self.made(story, "bob", ("put", of, (story.put, 0), "x"), None)
        self.made(story, "bob", ("cut", of, ((story.put, 0),)), None)
        self.made(story, "bob", ("mark", of, (story.put, 0)), None)


class ThereTest(ReasonTest):
    def test_which_of_several(self):
        story, of = a_text()
        here, gone, more = (story.put, 2), (story.put, 3), (("zz", 0), 0)
        for names, due in (((here,), None), ((here, gone), ("there", 1)), ((gone,), ("there", 0)),
                           ((here, gone, more), ("there", 1)), ((here, more), ("there", 1))):
            self.made(story, "ann", ("cut", of, names), due)
            self.made(story, "ann", ("look", of, names, "bold", True), due)
            self.made(story, "ann", ("say", of, names, "x"), due)
            self.made(story, "ann", ("suggest", of, ("cut", names)), due)

    def test_the_bound_of_k(self):
        story, of = a_text()
        for k, due in ((0, None), (2, None), (3, ("there", 0)), (10 ** 199, ("there", 0))):
            self.made(story, "ann", ("put", of, (story.put, k), "x"), due)
            self.made(story, "ann", ("mark", of, (story.put, k)), due)
            self.made(story, "ann", ("suggest", of, ("put", (story.put, k), "x")), due)

    def test_the_parent_of_a_move_is_thing_one(self):
        story, of = a_tree()
        self.made(story, "ann", ("move", of, story.leaf, story.node), None)
        self.made(story, "ann", ("move", of, story.leaf, None), None)
        self.made(story, "ann", ("move", of, story.leaf, ("zz", 0)), ("there", 1))
        self.made(story, "ann", ("move", of, ("zz", 0), story.leaf), ("there", 0))
        self.made(story, "ann", ("move", of, ("zz", 0), ("zz", 0)), ("there", 0))
        self.made(story, "ann", ("node", of, ("zz", 0), "leaf"), ("there", 0))

    def test_keys_of_each_other_word(self):
        for _, begun, whats in SORTS:
            story, of = begun()
            mark = story.make("ann", ("mark", of, None))
            undo = story.make("ann", ("undo", of, mark))
            for what in whats(story, of):
                if what[0] in ("give", "row") or len(what) < 3 or not isinstance(what[2], tuple):
                    continue
                fits = {"set": "row", "drop": "row", "node": "node", "move": "node", "close": "say", "take": "suggest",
                        "refuse": "suggest", "mark": "row node", "say": "row node"}.get(what[0])
                if fits is None:
                    continue
                for other in [of, mark, undo] + list(story.table):
                    apart = Story()
                    apart.table = dict(story.table)
                    is_fit = word(story.deed(other)) in fits.split() and other != mark and other != undo
                    self.made(apart, "ann", what[:2] + (other,) + what[3:], None if is_fit else ("there", 0))

    def test_a_name_of_each_other_word(self):
        story, of = a_text()
        mark = story.make("ann", ("mark", of, None))
        for one in list(story.table):
            due = None if one == story.put else ("there", 0)
            self.made(story, "ann", ("put", of, (one, 0), "x"), due)
        self.made(story, "ann", ("cut", of, ((mark, 0),)), ("there", 0))

    def test_of_another_document_nothing_is_there(self):
        story, of = a_text()
        other = story.make("ann", ("open", "text"))
        self.made(story, "ann", ("put", other, (story.put, 0), "x"), ("there", 0))
        self.made(story, "ann", ("take", other, story.more), ("there", 0))
        self.made(story, "ann", ("close", other, story.said), ("there", 0))
        self.made(story, "ann", ("undo", other, story.put), ("key",))
        self.made(story, "ann", ("take", of, story.more), None)

    def test_what_does_not_stand_is_not_there(self):
        story, of = a_text()
        fails = self.made(story, "bob", ("put", of, None, "x"), ("level", "none"))
        said = self.made(story, "bob", ("say", of, ((story.put, 0),), "x"), ("level", "none"))
        self.made(story, "ann", ("put", of, (fails, 0), "x"), ("there", 0))
        self.made(story, "ann", ("close", of, said), ("there", 0))

    def test_what_comes_behind_in_order_is_not_there(self):
        story, of = some_rows()
        row = story.make("ann", ("row", of))
        early = ("ann", row[1] + 2)
        one = self.made(story, "ann", ("set", of, early, "cost", 1), ("there", 0))
        self.made(story, "ann", ("row", of), None)
        self.assertEqual(early, ("ann", one[1] + 1))
        self.reason(story, one, ("there", 0))


class SuggestionTest(ReasonTest):
    def test_a_name_of_it_is_there_behind_a_take(self):
        story, of = a_text()
        for _ in range(2):
            self.made(story, "ann", ("put", of, (story.more, 0), "z"), ("there", 0))
            self.made(story, "ann", ("mark", of, (story.more, 1)), ("there", 0))
            story.make("ann", ("take", of, story.less))
        self.made(story, "ann", ("take", of, story.more), None)
        self.made(story, "ann", ("put", of, (story.more, 1), "z"), None)
        self.made(story, "ann", ("cut", of, ((story.more, 0), (story.more, 1))), None)
        self.made(story, "ann", ("cut", of, ((story.more, 0), (story.more, 2))), ("there", 1))
        self.made(story, "ann", ("suggest", of, ("put", (story.more, 0), "z")), None)
        self.made(story, "ann", ("mark", of, (story.less, 0)), ("there", 0))

    def test_a_name_of_a_refused_one_is_not_there(self):
        story, of = a_text()
        story.make("ann", ("refuse", of, story.more))
        self.made(story, "ann", ("put", of, (story.more, 0), "z"), ("there", 0))

    def test_taken_or_refused_once(self):
        for first in ("take", "refuse"):
            for which in ("more", "less"):
                story, of = a_text()
                one = getattr(story, which)
                self.made(story, "ann", (first, of, one), None)
                for _ in range(2):
                    self.made(story, "ann", ("take", of, one), ("there", 0))
                    self.made(story, "ann", ("refuse", of, one), ("there", 0))

    def test_a_take_that_does_not_stand_takes_nothing(self):
        story, of = a_text(bob="suggest")
        self.made(story, "bob", ("take", of, story.more), ("level", "suggest"))
        self.made(story, "bob", ("refuse", of, story.more), ("level", "suggest"))
        self.made(story, "ann", ("put", of, (story.more, 0), "z"), ("there", 0))
        self.made(story, "ann", ("take", of, story.more), None)

    def test_an_undone_one_may_be_taken(self):
        story, of = a_text()
        self.made(story, "ann", ("undo", of, story.more), None)
        self.made(story, "ann", ("take", of, story.more), None)
        self.made(story, "ann", ("put", of, (story.more, 0), "z"), None)
        self.made(story, "ann", ("redo", of, story.more), ("key",))

    def test_taken_apart_the_first_in_order_stands(self):
        story, of = a_text(bob="change", cy="change")
        all_of = [("ann", 6)]
        second = story.make("cy", ("refuse", of, story.more), all_of)
        first = story.make("bob", ("take", of, story.more), all_of)
        self.reason(story, first, None)
        self.reason(story, second, ("there", 0))


class UndoTest(ReasonTest):
    def test_each_word(self):
        for _, begun, whats in SORTS:
            story, of = begun(bob="own")
            for what in whats(story, of):
                apart = Story()
                apart.table = dict(story.table)
                one = self.made(apart, "bob", what, None)
                due = ("key",) if what[0] in ("give", "take", "refuse") else None
                for turn in ("undo", "redo", "redo", "undo", "undo"):
                    self.made(apart, "bob", (turn, of, one), due)

    def test_of_an_open_an_undo_and_a_redo(self):
        story, of = some_rows()
        undo = self.made(story, "ann", ("undo", of, story.row), None)
        redo = self.made(story, "ann", ("redo", of, story.row), None)
        for one in (of, undo, redo):
            self.made(story, "ann", ("undo", of, one), ("key",))
            self.made(story, "ann", ("redo", of, one), ("key",))

    def test_of_another_hand(self):
        story, of = some_rows(bob="own")
        for turn in ("undo", "redo"):
            self.made(story, "bob", (turn, of, story.row), ("key",))

    def test_of_what_is_none_or_does_not_stand(self):
        story, of = some_rows()
        other = story.make("ann", ("open", "rows"))
        apart = story.make("ann", ("row", other))
        fails = self.made(story, "ann", ("drop", of, ("zz", 0)), ("there", 0))
        for none in (("zz", 0), ("ann", 10 ** 6), apart, fails):
            self.made(story, "ann", ("undo", of, none), ("key",))
            self.made(story, "ann", ("redo", of, none), ("key",))

    def test_of_one_behind_in_order(self):
        story, of = some_rows()
        later = ("ann", story.said[1] + 2)
        one = story.make("ann", ("undo", of, later))
        story.make("ann", ("row", of))
        self.reason(story, one, ("key",))

    def test_of_a_suggestion(self):
        story, of = a_text()
        self.made(story, "ann", ("undo", of, story.more), None)
        self.made(story, "ann", ("redo", of, story.more), None)
        story.make("ann", ("take", of, story.more))
        story.make("ann", ("refuse", of, story.less))
        for one in (story.more, story.less):
            self.made(story, "ann", ("undo", of, one), ("key",))
            self.made(story, "ann", ("redo", of, one), ("key",))

    def test_the_level_is_that_of_the_word_undone(self):
        for _, begun, whats in SORTS:
            for level in LEVELS:
                story, of = begun(bob="own")
                for what in whats(story, of):
                    if what[0] in ("give", "take", "refuse"):
                        continue
                    apart = Story()
                    apart.table = dict(story.table)
                    one = apart.make("bob", what)
                    apart.make("ann", ("give", of, "bob", level))
                    is_low = LEVELS.index(level) < LEVELS.index(NEEDS[what[0]])
                    self.made(apart, "bob", ("undo", of, one), ("level", level) if is_low else None)
                    self.made(apart, "bob", ("redo", of, one), ("level", level) if is_low else None)

    def test_key_goes_ahead_of_level(self):
        story, of = some_rows()
        self.made(story, "bob", ("undo", of, story.row), ("key",))
        self.made(story, "bob", ("redo", of, ("zz", 0)), ("key",))


class AskingTest(Refusing):
    def test_no_key(self):
        story, _ = a_text()
        for thing in odd_keys():
            self.no_key(thing, reason_of, story.book(), thing)
            self.no_key(thing, reason_of, (), thing)
            self.no_key(thing, reason_of, book=story.book(), key=thing)

    def test_all_reasons(self):
        story, of = a_text()
        bare = story.make("bob", ("row", ("zz", 0)))
        told = reasons(story.book())
        self.assertIs(type(told), tuple)
        self.assertEqual([pair[0] for pair in told], sorted(story.table))
        self.assertEqual(dict(told)[bare], ("doc",))
        self.assertEqual(dict(told)[of], None)
        self.assertEqual(reasons(()), ())
        self.assertEqual(reasons(book=()), ())

    def test_standing_and_working(self):
        story, of = a_text()
        fails = story.make("bob", ("mark", of, None))
        undo = story.make("ann", ("undo", of, story.put))
        other = story.make("ann", ("open", "rows"))
        stands = tuple(story.deed(one) for one in sorted(story.table) if one not in (fails, other))
        self.same(standing(story.book(), doc=of), stands)
        self.same(working(story.book(), doc=of), tuple(one for one in stands if key(one) != story.put))
        self.same(working(book=story.book(), doc=other), (story.deed(other),))
        self.same(standing(book=story.book(), doc=other), (story.deed(other),))
        self.assertIn(story.deed(undo), working(story.book(), doc=of))

    def test_in_order_not_by_keys(self):
        story, of = some_rows(bob="own")
        one = story.make("bob", ("row", of), [])
        story.make("bob", ("give", of, "bob", "own"))
        story.make("ann", ("row", of))
        for told in (standing(story.book(), doc=of), working(story.book(), doc=of)):
            self.assertEqual(list(told), sorted(told, key=place))
            self.assertNotEqual(list(told), sorted(told))
        self.assertNotIn(story.deed(one), standing(story.book(), doc=of))

    def test_of_no_document(self):
        story, of = a_text()
        bare = story.make("bob", ("row", ("zz", 0)))
        for thing in [bare, story.put, ("zz", 0), ["ann", 0], ("ann", False)] + odd_keys()[:16]:
            self.same(standing(story.book(), doc=thing), ())
            self.same(working(story.book(), doc=thing), ())
            self.same(standing((), doc=thing), ())

    def test_the_document_by_its_name_alone(self):
        story, of = a_text()
        for call in (standing, working):
            with self.assertRaises(TypeError):
                call(story.book(), of)
        with self.assertRaises(TypeError):
            level_of(story.book(), of, "ann")


class LevelOfTest(Refusing):
    def setUp(self):
        self.story, self.of = some_rows(bob="change")
        self.early = ("ann", 1)
        self.back = self.story.make("ann", ("give", self.of, "bob", "see"))
        self.mark = self.story.make("bob", ("mark", self.of, None))

    def level(self, hand, due, **named):
        book = self.story.book()
        self.same(level_of(book, doc=self.of, hand=hand, **named), due)
        self.same(level_of(hand=hand, doc=self.of, book=book, **named), due)

    def test_behind_all(self):
        self.level("ann", "own")
        self.level("bob", "see")
        self.level("cy", "none")
        self.level("bob", "see", ahead=None)

    def test_just_ahead_of_a_deed(self):
        self.level("ann", "none", ahead=self.of)
        self.level("ann", "own", ahead=self.early)
        self.level("bob", "none", ahead=self.of)
        self.level("bob", "none", ahead=self.early)
        self.level("bob", "change", ahead=self.story.row)
        self.level("bob", "change", ahead=self.back)
        self.level("bob", "see", ahead=self.mark)

    def test_ahead_of_no_deed_of_the_document(self):
        other = self.story.make("ann", ("open", "rows"))
        row = self.story.make("ann", ("row", other))
        book = self.story.book()
        for thing in [other, row, ("ann", True), ["ann", 0], (), [], 0, False, ""] + odd_keys():
            if thing is not None:
                self.no_key(thing, level_of, book, doc=self.of, hand="ann", ahead=thing)
        self.no_key(self.of, level_of, book, doc=other, hand="ann", ahead=self.of)
        self.assertEqual(level_of(book, doc=other, hand="ann", ahead=row), "own")

    def test_a_document_without_deeds(self):
        book = self.story.book()
        self.same(level_of(book, doc=("zz", 0), hand="ann"), "none")
        self.same(level_of(book, doc=("zz", 0), hand="ann", ahead=None), "none")
        self.no_key(self.of, level_of, book, doc=("zz", 0), hand="ann", ahead=self.of)
        self.same(level_of((), doc=self.of, hand="ann"), "none")

    def test_no_open_ahead(self):
        story = Story()
        early = story.make("ann", ("give", ("bob", 0), "ann", "own"))
        self.same(level_of(story.book(), doc=("bob", 0), hand="ann"), "none")
        self.same(level_of(story.book(), doc=("bob", 0), hand="bob"), "none")
        of = story.make("bob", ("open", "rows"))
        self.same(level_of(story.book(), doc=of, hand="bob", ahead=early), "none")
        self.same(level_of(story.book(), doc=of, hand="bob", ahead=of), "none")
        self.same(level_of(story.book(), doc=of, hand="bob"), "own")
        self.same(level_of(story.book(), doc=of, hand="ann"), "none")


class PlainTest(Refusing):
    def test_of_many_books(self):
        for plain in ALL + [Plain(book) for book in BOOKS]:
            due = tuple((key(deed), plain.reason(key(deed))) for deed in plain.book)
            self.same(reasons(plain.book), due)
            for of in sorted({doc(deed) for deed in plain.book}):
                self.same(standing(plain.book, doc=of), tuple(plain.standing(of)))
                self.same(working(plain.book, doc=of), tuple(plain.working(of)))
                for hand in ("ann", "bob", "cy", "dora"):
                    self.same(level_of(plain.book, doc=of, hand=hand), plain.level_behind(of, hand))
                    for deed in plain.deeds(of)[::5]:
                        due = plain.level(hand, plain.ahead(deed))
                        self.same(level_of(plain.book, doc=of, hand=hand, ahead=key(deed)), due)
            for deed in plain.book[::6]:
                self.same(reason_of(plain.book, key(deed)), plain.reason(key(deed)))

    def test_a_deed_more_turns_no_reason_of_other_documents_nor_of_deeds_ahead(self):
        turned = 0
        for plain in ALL[::3]:
            table = {key(deed): deed for deed in plain.book}
            known = set()
            for deed in sorted(plain.book, key=lambda one: len(knew(one))):
                known |= knew(deed) | {key(deed)}
                ahead = dict(reasons(tuple(table[one] for one in sorted(known - {key(deed)}))))
                behind = dict(reasons(tuple(table[one] for one in sorted(known))))
                for one in ahead:
                    other = table[one]
                    if doc(other) != doc(deed) or place(other) < place(deed):
                        self.same(behind[one], ahead[one])
                    elif not like(behind[one], ahead[one]):
                        turned += 1
                        self.assertNotIn(word(deed), ("undo", "redo"))
        self.assertGreater(turned, 0)

    def test_an_undo_or_a_redo_more_turns_no_other_reason(self):
        chance = random.Random(7)
        for plain in ALL[::4]:
            told = dict(reasons(plain.book))
            for _ in range(6):
                one = chance.choice(plain.book)
                more = make(list(plain.book), one[0], (chance.choice(["undo", "redo"]), doc(one), key(one)))
                book = tuple(sorted(plain.book + (more,), key=key))
                behind = dict(reasons(book))
                for other in told:
                    self.same(behind[other], told[other])


if __name__ == "__main__":
    unittest.main()
