import random
import unittest

from coeditry.copies import Copy
from coeditry.finder import Finder
from coeditry.views import view
from coeditry.words import index, spots_of
from tests.naive import BOOKS
from tests.samples import THINGS, Odd
from tests.story import Refusing, opened
from tests.worlds import ALL, HANDS


class FinderTest(Refusing):
    def setUp(self):
        self.story, self.of = opened("text", bob="change")
        self.one = self.story.make("ann", ("put", self.of, None, "so it is"))

    def told(self, *hands):
        finders = [Finder(hand) for hand in hands]
        for finder in finders:
            for deed in self.story.book():
                finder.take(deed)
        return finders

    def test_none(self):
        finder = Finder("ann")
        self.same((finder.book(), finder.index(), finder.spots("so"), finder.spots(""), len(finder)),
                  ((), (), (), (), 0))

    def test_told_as_a_copy_tells(self):
        deeds = self.story.book()
        finder = Finder("ann")
        self.same(finder.take(deeds[2]), ())
        self.same(finder.take(deed=deeds[1]), ())
        self.same((finder.book(), finder.index(), len(finder)), ((), (), 0))
        self.same(finder.take(deeds[0]), (("ann", 0), ("ann", 1), ("ann", 2)))
        self.same(finder.take(deeds[1]), ())
        self.same(finder.book(), deeds)
        self.assertEqual(len(finder), 3)

    def test_words(self):
        ann, bob, cy = self.told("ann", "bob", "cy")
        due = (("is", ((0, 6, ("", 0)),)), ("it", ((0, 3, ("", 0)),)), ("so", ((0, 0, ("", 0)),)))
        for finder in (ann, bob):
            self.same(finder.index(), due)
            self.same(finder.spots("it"), ((0, 3, ("", 0)),))
            self.same(finder.spots(word="so"), ((0, 0, ("", 0)),))
        self.same(cy.index(), ())
        self.same(cy.spots("it"), ())

    def test_spots_of_any_text(self):
        finder = self.told("ann")[0]
        for text in ("", " ", "s", "o", "so it", "So", "7", "-", "\n", "so ", "x" * 40):
            self.same(finder.spots(text), ())

    def test_as_deeds_come(self):
        finder = self.told("ann")[0]
        cut = self.story.make("ann", ("cut", self.of, ((self.one, 2),)))
        finder.take(self.story.deed(cut))
        self.same(finder.spots("soit"), ((0, 0, ("", 0)),))
        self.same(finder.spots("so"), ())
        undo = self.story.make("ann", ("undo", self.of, cut))
        finder.take(self.story.deed(undo))
        self.same(finder.spots("soit"), ())
        self.same(finder.spots("so"), ((0, 0, ("", 0)),))

    def test_of_what_is_seen_alone(self):
        gave = self.story.make("ann", ("give", self.of, "bob", "none"))
        bob = self.told("bob")[0]
        self.same(bob.index(), ())
        self.assertEqual(len(bob), gave[1] + 1)

    def test_refused_as_a_copy_refuses(self):
        finder = Finder("ann")
        deeds = self.story.book()
        finder.take(deeds[0])
        finder.take(deeds[2])
        for thing in THINGS + [Odd(), list(deeds[0]), deeds[0][:4], deeds[0] + (None,)]:
            self.no_deed("shape", finder.take, thing)
        self.no_deed("own", finder.take, ("bob", 1, 0, (), ("open", "text")))
        self.no_deed("own", finder.take, ("bob", 0, 0, (("bob", 1),), ("open", "text")))
        self.no_deed("other", finder.take, ("ann", 0, 0, (), ("open", "rows")))
        self.no_deed("other", finder.take, deeds[2][:4] + (("row", ("ann", 0)),))
        self.assertEqual(len(finder), 1)
        self.same(finder.take(deeds[1]), (("ann", 1), ("ann", 2)))

    def test_age_by_its_name_alone(self):
        with self.assertRaises(TypeError):
            Finder("ann", 3)
        for age in (0, 3, 10 ** 6):
            finder = Finder(hand="ann", age=age)
            for deed in self.story.book():
                finder.take(deed)
            self.assertEqual(len(finder.index()), 3)


class ManyTest(Refusing):
    def test_of_many_books_in_any_order_and_twice(self):
        chance = random.Random(8)
        words = 0
        for plain in ALL:
            hand = chance.choice(HANDS)
            finder, copy = Finder(hand), Copy("eve")
            deeds = list(plain.book) * 2
            chance.shuffle(deeds)
            for at, deed in enumerate(deeds):
                self.same(finder.take(deed), copy.take(deed))
                if at % 25 == 0:
                    self.same(finder.index(), index(view(copy.book(), hand=hand)))
            self.same(finder.book(), plain.book)
            self.assertEqual(len(finder), len(plain.book))
            due = plain.view(hand)
            self.same(finder.index(), index(due))
            for word, spots in finder.index():
                self.same(finder.spots(word), spots)
                self.same(spots_of(due, word), spots)
                words += 1
        self.assertGreater(words, 100)

    def test_odd_books(self):
        for book in BOOKS[:8]:
            finder = Finder("bob")
            for deed in reversed(book):
                finder.take(deed)
            self.same(finder.book(), book)


if __name__ == "__main__":
    unittest.main()
