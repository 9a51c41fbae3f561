import unittest

from coeditry.sights import seen_by
from coeditry.standing import level_of
from tests.story import Refusing, Story, opened
from tests.worlds import ALL, HANDS, LARGE


class SeenTest(Refusing):
    def sees(self, story, hand, *due):
        book = story.book()
        self.same(seen_by(book, hand=hand), due)
        self.same(seen_by(hand=hand, book=book), due)

    def test_nothing(self):
        self.same(seen_by((), hand="ann"), ())

    def test_by_each_level(self):
        for level in ("see", "tell", "suggest", "change", "own"):
            story, of = opened("text", bob=level)
            self.sees(story, "bob", of)
            self.sees(story, "cy")
            self.sees(story, "ann", of)
        story, of = opened("text", bob="none")
        self.sees(story, "bob")

    def test_opened_by_it(self):
        story = Story()
        told = [story.make("ann", ("open", sort)) for sort in ("text", "rows", "tree")]
        self.sees(story, "ann", *told)
        self.sees(story, "bob")

    def test_rising_by_keys(self):
        story = Story()
        bobs = story.make("bob", ("open", "text"))
        anns = story.make("ann", ("open", "rows"))
        story.make("bob", ("give", bobs, "ann", "see"))
        self.sees(story, "ann", anns, bobs)

    def test_taken_back_and_given_again(self):
        story, of = opened("rows", bob="change")
        story.make("ann", ("give", of, "bob", "none"))
        self.sees(story, "bob")
        story.make("ann", ("give", of, "bob", "see"))
        self.sees(story, "bob", of)

    def test_who_opened_it_and_gave_it_away(self):
        story, of = opened("tree", bob="own")
        story.make("ann", ("give", of, "ann", "none"))
        self.sees(story, "ann")
        self.sees(story, "bob", of)
        story.make("bob", ("give", of, "ann", "tell"))
        self.sees(story, "ann", of)

    def test_gives_that_do_not_stand(self):
        story, of = opened("text", bob="change")
        story.make("bob", ("give", of, "cy", "own"))
        story.make("cy", ("give", of, "cy", "own"))
        self.sees(story, "cy")
        story.make("bob", ("give", of, "bob", "none"))
        self.sees(story, "bob", of)

    def test_by_order_not_by_when_it_was_made(self):
        story, of = opened("text", cy="own")
        took = story.make("cy", ("give", of, "bob", "none"))
        gave = story.make("ann", ("give", of, "bob", "see"), [of])
        self.assertLess(gave, took)
        self.assertLess(story.deed(took)[2], 3)
        self.sees(story, "bob")

    def test_an_open_that_is_none_of_a_document(self):
        story = Story()
        story.make("ann", ("give", ("zz", 0), "ann", "own"))
        self.sees(story, "ann")

    def test_the_hand_by_its_name_alone(self):
        with self.assertRaises(TypeError):
            seen_by((), "ann")

    def test_of_many_books(self):
        many = 0
        for plain in ALL + LARGE:
            for hand in HANDS + ("dan",):
                told = seen_by(plain.book, hand=hand)
                self.same(told, plain.sees(hand))
                for of in plain.docs():
                    level = level_of(plain.book, doc=of, hand=hand)
                    self.assertEqual(of in told, level != "none")
                many += len(told)
        self.assertGreater(many, 60)


if __name__ == "__main__":
    unittest.main()
