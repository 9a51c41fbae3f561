"""What the document promises over the whole program."""

import copy
import random
import unittest

from coeditry.beside import beside
from coeditry.books import both_books, is_book
from coeditry.clashes import clashes, last_ones
from coeditry.comments import comments, held
from coeditry.copies import Copy
from coeditry.deadby import dead_by
from coeditry.gapchecker import lets_gap
from coeditry.history import wrote
from coeditry.holdchecker import lets_hold
from coeditry.holdpapers import hold_paper
from coeditry.house import House
from coeditry.latemoves import branches_late
from coeditry.living import kept_dead, living, shown_text, signs_of
from coeditry.looks import looks_on, runs
from coeditry.markchecker import lets_mark
from coeditry.markpapers import mark_paper
from coeditry.marks import mark_of, marks
from coeditry.parting import parted
from coeditry.placechecker import lets_place
from coeditry.placepapers import place_paper
from coeditry.placing import row_by_skipping
from coeditry.ringchecker import lets_ring
from coeditry.ringpapers import ring_paper
from coeditry.rows import rows_of
from coeditry.sights import seen_by
from coeditry.spotchecker import lets_spots
from coeditry.standchecker import lets_stand
from coeditry.standing import reasons, standing, working
from coeditry.suggestions import fate_of, suggestions
from coeditry.texts import hung_on, row_of, sign_of
from coeditry.trees import branches, idle_moves, is_there, parent_of
from coeditry.undoing import effect_of, redoable, undoable
from coeditry.versions import book_at, version_of
from coeditry.views import sight, view
from coeditry.words import index, spots_of
from tests.naive import doc, knew
from tests.samples import THINGS, Odd
from tests.story import Refusing, odd_keys, opened
from tests.worlds import ALL, HANDS, alone, docs, keys

# What asks for a document, by how many things it is handed behind the BOOK, and by the sort.
BY_DOC = [
    (row_of, 0, "text"), (sign_of, 1, "text"), (hung_on, 1, "text"), (row_by_skipping, 0, "text"),
    (place_paper, 2, "text"), (lets_place, 3, "text"), (signs_of, 0, "text"), (living, 0, "text"),
    (shown_text, 0, "text"), (kept_dead, 1, "text"), (looks_on, 1, "text"), (runs, 0, "text"),
    (rows_of, 0, "rows"), (clashes, 0, "rows"), (last_ones, 2, "rows"),
    (branches, 0, "tree"), (is_there, 1, "tree"), (parent_of, 1, "tree"), (idle_moves, 0, "tree"),
    (branches_late, 0, "tree"), (ring_paper, 1, "tree"), (lets_ring, 2, "tree"),
    (comments, 0, None), (dead_by, 1, None), (suggestions, 0, "text"), (beside, 0, "text"),
    (mark_of, 1, None), (marks, 0, None), (mark_paper, 1, None), (lets_mark, 2, None),
]

# What is told of a document alone, by its sort.
OF_DOC = [(call, sort) for call, many, sort in BY_DOC if many == 0]

CHECKERS = [
    (lets_gap, ((("zz", 7),),), {}), (lets_stand, (("ann", 0),), {}), (lets_place, "one two", {"doc": "text"}),
    (lets_ring, "move", {"doc": "tree"}), (lets_hold, "said", {}), (lets_mark, ("ann",), {"doc": "text"}),
]


def deep(many, last=()):
    """A tuple so many times within a tuple."""
    for _ in range(many):
        last = (last,)
    return last


# Any things, as large as they may be.
LARGE = [deep(39), tuple(range(4999)), 10 ** 199, -(10 ** 199), "x" * 4000, tuple((n, None) for n in range(1600)),
         [[[("ann", 0)]]], tuple(("ann", n) for n in range(1600)), (("ann", 10 ** 199),), deep(38, "x")]


class DocsTest(Refusing):
    def setUp(self):
        self.story, self.text = opened("text", bob="change")
        self.rows = self.story.make("ann", ("open", "rows"))
        self.tree = self.story.make("ann", ("open", "tree"))
        self.bare = self.story.make("ann", ("row", ("zz", 0)))
        self.of = {"text": self.text, "rows": self.rows, "tree": self.tree}

    def test_no_key_of_the_document_goes_ahead_of_all_else(self):
        book = self.story.book()
        for call, many, sort in BY_DOC:
            gone = [self.bare, ("zz", 0), ("ann", True), list(self.text), Odd()] + odd_keys()
            gone += [of for other, of in self.of.items() if sort not in (None, other)]
            for thing in gone:
                for odd in (None, Odd(), (), [("ann", 0)], ("zz", 0), (("zz", 0), 0)):
                    self.no_key(thing, call, book, *[odd] * many, doc=thing)

    def test_where_came_or_age_is_handed_in_too(self):
        book = self.story.book()
        for thing in [self.bare, self.rows, Odd()]:
            self.no_key(thing, row_by_skipping, book, doc=thing, came=(Odd(), None))
            self.no_key(thing, branches_late, book, doc=thing, came=(Odd(), None))
        self.no_key(self.bare, marks, book, doc=self.bare, age=0)

    def test_the_document_is_told_by_its_name(self):
        book = self.story.book()
        for call, sort in OF_DOC:
            of = self.of[sort or "text"]
            call(book, doc=of)
            with self.assertRaises(TypeError):
                call(book, of)
            with self.assertRaises(TypeError):
                call(book)


class AnyThingTest(Refusing):
    def setUp(self):
        self.story, self.text = opened("text", bob="change")
        self.put = self.story.make("ann", ("put", self.text, None, "abc"))
        said = self.story.make("ann", ("say", self.text, ((self.put, 0), (self.put, 1)), "x"))
        self.story.make("ann", ("mark", self.text, (self.put, 1)))
        self.tree = self.story.make("ann", ("open", "tree"))
        node = self.story.make("ann", ("node", self.tree, None, "leaf"))
        move = self.story.make("ann", ("move", self.tree, node, node))
        self.handed = {"said": (said,), "one two": ((self.put, 0), (self.put, 1)), "move": (move,),
                       "text": self.text, "tree": self.tree}

    def call(self, check, handed, named, thing):
        handed = self.handed[handed] if isinstance(handed, str) else handed
        named = {name: self.handed[of] for name, of in named.items()}
        return check(self.story.book(), *handed, thing, **named)

    def test_checkers_look_at_any_thing_and_change_none(self):
        for check, handed, named in CHECKERS:
            for thing in THINGS + LARGE + [Odd(), Copy("ann"), House(("ann",)), [[], [()]], ([],), (([], []), ([], []))]:
                was = copy.deepcopy(thing) if isinstance(thing, (list, tuple)) else thing
                try:
                    self.call(check, handed, named, thing)
                except ValueError:
                    pass
                if isinstance(thing, (list, tuple)):
                    self.same(thing, was)

    def test_spots_of_any_thing(self):
        told = view(self.story.book(), hand="ann")
        for thing in THINGS + LARGE + [Odd(), Copy("ann"), House(("ann",))]:
            if thing != ():
                with self.assertRaises(ValueError):
                    lets_spots(told, "abc", thing)

    def test_houses_and_copies_look_at_any_thing(self):
        house, held_by = House(("ann", "bob")), Copy("ann")
        for thing in THINGS + LARGE + [Odd(), Copy("ann"), House(("ann",))]:
            self.no_deed("step", house.step, thing)
            self.no_deed("shape", held_by.take, thing)
            self.no_deed("shape", held_by.make, thing)
            self.no_deed("shape", held_by.read, thing)
            self.assertIs(house.has(thing), thing == "ann")
            self.assertIs(house == thing, False)
        self.same(house.counts(), (len(THINGS) + len(LARGE) + 3,) * 2)


class AllTellingTest(Refusing):
    """Of a BOOK all that is told, in one."""

    def told(self, book, hands=HANDS):
        told = [reasons(book), version_of(book)]
        for of in [deed[:2] for deed in book if deed[4][0] == "open"]:
            told.append(self.told_of(book, of))
        for hand in hands:
            told += [seen_by(book, hand=hand), view(book, hand=hand), index(view(book, hand=hand)),
                     undoable(book, hand=hand), redoable(book, hand=hand), parted(book, hand=hand)]
        return told

    def told_of(self, book, of):
        sort = [deed[4][1] for deed in book if deed[:2] == of][0]
        told = [call(book, doc=of) for call, needed in OF_DOC if needed in (None, sort)]
        told += [standing(book, doc=of), working(book, doc=of)]
        told += [mark_of(book, hand, doc=of) for hand in HANDS]
        for one, _, _ in comments(book, doc=of):
            told += [held(book, one), hold_paper(book, one)]
        if sort == "text":
            told += [wrote(book, of)] + [fate_of(book, one) for one, _, _ in suggestions(book, doc=of)]
            for name in row_of(book, doc=of):
                told += [dead_by(book, name, doc=of), looks_on(book, name, doc=of), hung_on(book, name, doc=of)]
        if sort == "tree":
            told += [ring_paper(book, one, doc=of) for one in idle_moves(book, doc=of)]
        return told

    def test_m1_copies_that_know_the_same_tell_the_same(self):
        chance = random.Random(12)
        for plain in ALL[::6]:
            due = None
            for _ in range(3):
                one = Copy(chance.choice(HANDS))
                deeds = list(plain.book) + chance.choices(plain.book, k=5) if plain.book else []
                chance.shuffle(deeds)
                one.take_all(deeds)
                told = self.told(one.book())
                self.same(one.book(), plain.book)
                if due is not None:
                    self.same(told, due)
                due = told

    def test_m4_of_each_version_all_is_told_as_it_was(self):
        for plain in ALL[::9]:
            for deed in plain.book[::7]:
                then = book_at(plain.book, deed[3])
                self.same(then, tuple(one for one in plain.book if one[:2] in knew(deed)))
                self.assertTrue(is_book(then))
                # Whoever made it saw just that: he tells it by a COPY that came to know nothing else.
                seen = Copy(deed[0])
                seen.take_all(then)
                self.same(self.told(seen.book()), self.told(then))

    def test_51_other_documents_turn_nothing(self):
        for plain in ALL[::4]:
            for of in docs(plain):
                self.same(self.told_of(alone(plain, of), of), self.told_of(plain.book, of))

    def test_what_was_asked_before_turns_nothing(self):
        for plain in ALL[::10]:
            self.same(self.told(plain.book), self.told(plain.book))

    def test_m2_a_comment_has_just_those_of_its_words_that_live(self):
        for plain in ALL:
            for of in docs(plain, "text"):
                for one, _, _ in comments(plain.book, doc=of):
                    word, what, text = held(plain.book, one)
                    due = [name for name in living(plain.book, doc=of) if name in plain.said_on(one)]
                    self.same(list(what), due)
                    self.assertEqual(word, "holds" if due else "was")
                    if due:
                        self.assertEqual(text, "".join(sign_of(plain.book, name, doc=of) for name in due))
                    paper = hold_paper(plain.book, one)
                    self.assertEqual(lets_hold(plain.book, one, paper), len(due))

    def test_m3_what_one_may_not_see_turns_nothing(self):
        """Of two BOOKS that are PARTED alike the VIEWS are the same, whatever else they have."""
        for plain in ALL[::3]:
            for hand in HANDS:
                story_of_others = (("zed", 0, 0, (), ("open", "text")), ("zed", 1, 1, (("zed", 1),), ("put", ("zed", 0),
                                   None, "so it is")))
                more = both_books(plain.book, story_of_others)
                self.assertTrue(is_book(more))
                self.same(parted(more, hand=hand), parted(plain.book, hand=hand))
                self.same(view(more, hand=hand), view(plain.book, hand=hand))

    def test_m3_no_deed_works_that_its_maker_had_no_right_to(self):
        for plain in ALL:
            for one, reason in reasons(plain.book):
                if reason is not None:
                    of = doc(plain.table[one])
                    self.assertNotIn(plain.table[one], working(plain.book, doc=of))

    def test_m4_undoing_takes_ones_own_deeds_work_alone(self):
        for plain in ALL[::5]:
            for hand in HANDS:
                for one in undoable(plain.book, hand=hand):
                    self.assertEqual(one[0], hand)
                    gone, come = effect_of(plain.book, one)
                    if plain.table[one][4][0] == "put":
                        self.assertTrue(all(name[0] == one for name, _ in gone))
                        self.same(come, ())

    def test_m6_words_are_found_as_by_going_through_the_view(self):
        for plain in ALL[::3]:
            for hand in HANDS:
                told = view(plain.book, hand=hand)
                for word, spots in index(told):
                    self.same(spots_of(told, word), spots)
                    self.same(lets_spots(told, word, spots), len(spots))

    def test_a_sight_in_a_book_of_its_deeds_alone(self):
        for plain in ALL[::4]:
            for hand in HANDS:
                for of in seen_by(plain.book, hand=hand):
                    self.same(sight(alone(plain, of), of, hand=hand), sight(plain.book, of, hand=hand))

    def test_66_a_mark_is_led_to_the_name_behind_the_paper(self):
        for plain in ALL:
            for of in docs(plain, "text"):
                for hand in HANDS:
                    mark = mark_of(plain.book, hand, doc=of)
                    if mark is None or mark[0] is None:
                        continue
                    paper = mark_paper(plain.book, hand, doc=of)
                    self.same(lets_mark(plain.book, hand, paper, doc=of), len(paper))
                    row = row_of(plain.book, doc=of)
                    at = row.index(mark[0]) - len(paper)
                    self.same(mark[1], row[at] if at >= 0 else None)

    def test_60_a_suggestion_is_taken_or_refused_once(self):
        for plain in ALL:
            for of in docs(plain, "text"):
                ends = [deed[4][2] for deed in standing(plain.book, doc=of) if deed[4][0] in ("take", "refuse")]
                self.assertEqual(len(ends), len(set(ends)))
                for one, _, word in suggestions(plain.book, doc=of):
                    self.assertEqual(word in ("taken", "refused"), one in ends and word != "withdrawn")

    def test_keys_are_all_told(self):
        for plain in ALL:
            self.assertEqual([one for one, _ in reasons(plain.book)], keys(plain))


if __name__ == "__main__":
    unittest.main()
