"""What stands at the document's bounds, and somewhat beyond them."""

import random
import unittest

from coeditry.books import is_book
from coeditry.comments import held
from coeditry.copies import Copy
from coeditry.deadby import dead_by
from coeditry.desk import Desk
from coeditry.holdchecker import lets_hold
from coeditry.holdpapers import hold_paper
from coeditry.house import House
from coeditry.living import living, shown_text
from coeditry.markchecker import lets_mark
from coeditry.markpapers import mark_paper
from coeditry.marks import mark_of
from coeditry.parting import parted
from coeditry.placechecker import lets_place
from coeditry.placepapers import place_paper
from coeditry.ringchecker import lets_ring
from coeditry.ringpapers import ring_paper
from coeditry.rows import rows_of
from coeditry.standchecker import lets_stand
from coeditry.standing import reasons
from coeditry.standpapers import stand_paper
from coeditry.trees import branches
from coeditry.undoing import effect_of, undoable
from coeditry.views import sight, view
from tests.beyond import Beyond, parted_plainly
from tests.chance import a_house
from tests.story import Refusing, Story, opened

FIVE = ("ann", "bob", "cy", "dan", "eve")


class BoundsTest(Refusing):
    def test_sixty_deeds_by_five_hands(self):
        for seed, sort in enumerate(("text", "rows", "tree", "text")):
            plain = Beyond(a_house(seed + 500, sort, many=60, hands=FIVE))
            self.assertEqual(len(plain.book), 60)
            self.assertEqual(len({deed[0] for deed in plain.book}), 5)
            for hand in FIVE:
                due = plain.view(hand)
                self.same(view(plain.book, hand=hand), due)
                told = parted(plain.book, hand=hand)
                self.same(told, parted_plainly(plain.book, hand))
                self.same(view(told, hand=hand), due)
                self.same(undoable(plain.book, hand=hand), plain.turnable(hand, "undo"))

    def test_sixty_deeds_of_four_documents(self):
        story = Story()
        docs = [story.make(hand, ("open", sort)) for hand, sort in zip(FIVE, ("text", "rows", "tree", "text"))]
        while len(story.table) < 60:
            for of in docs:
                story.make(of[0], ("give", of, "eve", "see" if len(story.table) % 3 else "none"))
        book = story.book()
        self.assertTrue(is_book(book))
        plain = Beyond(book)
        for hand in FIVE:
            self.same(view(book, hand=hand), plain.view(hand))
            self.same(parted(book, hand=hand), parted_plainly(book, hand))
        self.same(reasons(book), tuple((deed[:2], None) for deed in book))

    def test_a_text_of_two_hundred_signs(self):
        story, of = opened("text", bob="change")
        last = None
        for at in range(17):
            last = (story.make("ann", ("put", of, last, "abcdefghijkl")), 11)
        row = living(story.book(), doc=of)
        self.assertEqual(len(row), 204)
        story.make("bob", ("mark", of, row[-1]))
        said = story.make("bob", ("say", of, row[:12], "x" * 40))
        for at in range(1, 204, 20):
            story.make("ann", ("cut", of, row[at:at + 20]))
        book = story.book()
        self.assertEqual(shown_text(book, doc=of), "a")
        self.same(mark_of(book, "bob", doc=of), (row[-1], row[0]))
        paper = mark_paper(book, "bob", doc=of)
        self.assertEqual(len(paper), 203)
        self.same(lets_mark(book, "bob", paper, doc=of), 203)
        self.no_paper("more", -1, lets_mark, book, "bob", paper[:-1], doc=of)
        self.no_paper("by", 203, lets_mark, book, "bob", paper + ((row[0], paper[-1][1]),), doc=of)
        self.same(held(book, said), ("holds", (row[0],), "a"))
        self.same(lets_hold(book, said, hold_paper(book, said)), 1)
        way = place_paper(book, row[0], row[-1], doc=of)
        self.assertEqual([len(one) for one in way], [1, 204])
        self.assertIs(lets_place(book, row[0], row[-1], way, doc=of), True)
        told = sight(book, of, hand="bob")
        self.same((told[2], told[5]), ((("a", ()),), ()))
        self.same(sight(book, of, hand="bob", age=100)[5], (("bob", 0),))

    def test_twenty_nodes_one_below_the_other(self):
        story, of = opened("tree", bob="change")
        nodes = [story.make("ann", ("node", of, None, "stem"))]
        for _ in range(19):
            nodes.append(story.make("ann", ("node", of, nodes[-1], "leaf")))
        idle = story.make("bob", ("move", of, nodes[0], nodes[-1]))
        while len(story.table) < 42:
            story.make("bob", ("mark", of, nodes[-1]))
        book = story.book()
        paper = ring_paper(book, idle, doc=of)
        self.same(paper, tuple(nodes[::-1]))
        self.same(lets_ring(book, idle, paper, doc=of), 20)
        self.assertEqual(len(branches(book, doc=of)), 20)
        self.same(sight(book, of, hand="bob")[2], ((None, "stem"),) + tuple((at, "leaf") for at in range(19)))
        # Without one between them the move does what it didn't: all come to be below that one, which isn't there.
        gone, come = effect_of(book, nodes[3])
        self.assertEqual(([node for node, _ in gone], come), (nodes, ()))
        story.make("ann", ("undo", of, nodes[0]))
        self.same(dead_by(story.book(), nodes[-1], doc=of), (nodes[0],))

    def test_six_fields_that_clash(self):
        hands = FIVE
        story, of = opened("rows", **{hand: "change" for hand in hands[1:]})
        row = story.make("ann", ("row", of))
        fields = ("a", "b", "c", "d", "e", "abcdefgh")
        for hand in reversed(hands):
            for at, field in enumerate(fields):
                value = (at, -10 ** 6, 10 ** 6, "abcdefghijkl", "7")[hands.index(hand)]
                story.make(hand, ("set", of, row, field, value), [row])
        plain = Beyond(story.book())
        told = sight(story.book(), of, hand="bob")
        self.same(told, plain.sight(of, "bob"))
        self.same([len(clash) for _, _, clash in told[2][0]], [5] * 6)
        self.same(rows_of(story.book(), doc=of), plain.rows(of))

    def test_a_comment_on_twelve_names_of_forty_deeds(self):
        story, of = opened("text", bob="change")
        puts = [story.make("ann", ("put", of, None, "a")) for _ in range(12)]
        names = tuple((put, 0) for put in puts)
        said = story.make("bob", ("say", of, names, "x"))
        cuts = [story.make("bob", ("cut", of, names[at:at + 3])) for at in range(0, 10)]
        while len(story.table) < 40:
            story.make("ann", ("undo", of, puts[len(story.table) % 12]))
        book = story.book()
        paper = hold_paper(book, said)
        self.assertEqual(len(paper), 12)
        self.same(lets_hold(book, said, paper), 0)
        self.same(held(book, said), ("was", (), "a" * 12))
        for at, cut in enumerate(cuts):
            for name in names[at:at + 3]:
                self.assertIn(cut, dead_by(book, name, doc=of))

    def test_stand_papers_of_sixty_deeds(self):
        book = a_house(7, "text", many=60, hands=FIVE)
        for one, reason in reasons(book):
            self.same(lets_stand(book, one, stand_paper(book, one)), reason)

    def test_copies_take_forty_unlike_deeds_in_any_order(self):
        chance = random.Random(40)
        for seed in range(5):
            book = a_house(seed + 40, "text", many=40, hands=FIVE)
            one = Copy("eve")
            deeds = list(book)
            chance.shuffle(deeds)
            one.take_all(deeds)
            self.same(one.book(), book)
            self.same(one.waiting(), ())

    def test_schedules_of_two_hundred_steps_by_four_copies(self):
        hands = FIVE[:4]
        house = House(hands)
        chance = random.Random(200)
        house.step(("make", "ann", ("open", "text")))
        for hand in hands[1:]:
            house.step(("make", "ann", ("give", ("ann", 0), hand, "own")))
        while len(house) < 200:
            one, other = chance.sample(hands, 2)
            if chance.random() < 0.25 and len(house.book(one)) < 50:
                house.step(("make", one, ("put", ("ann", 0), None, "ab")))
            elif len(house.letters()) > 3:
                house.step((chance.choice(["come", "come", "lose"]), chance.randrange(len(house.letters()))))
            else:
                house.step(("send", one, other))
        again = House(hands)
        self.assertEqual(again.run(house.steps()), 200)
        self.assertTrue(again == house)
        self.assertEqual(again.back(times=200), house.steps()[::-1])
        self.assertTrue(again == House(hands))
        self.same(again.counts(), (2, 2))

    def test_numbers_to_twelve_figures_at_a_desk(self):
        desk = Desk()
        desk.say("open ann")
        self.same(desk.say("do make ann open rows | make ann row ann.0 | make ann set ann.0 ann.1 a 999999999999 | "
                           "make ann set ann.0 zz.999999999999 a -999999999999"), "4")
        self.same(desk.say("book ann"), "ann.0 ann.1 ann.2 ann.3")


if __name__ == "__main__":
    unittest.main()
