import itertools
import random
import unittest

from coeditry.books import is_book
from coeditry.copies import Copy
from coeditry.keeping import StandingHouse
from coeditry.standing import reason_of, reasons, standing, working
from tests.chance import ALL, HOUSES
from tests.naive import BOOKS, doc, key, knew
from tests.plain import place
from tests.samples import BOOK, THINGS, Odd
from tests.story import Refusing, Story, odd_keys, opened


# The DEEDS of BOOK in a turn by which each time there is a BOOK.
TURN = tuple(BOOK[at] for at in (0, 1, 2, 4, 3, 5))


def told_by(house):
    """All that a STANDING HOUSE tells."""
    book = house.book()
    docs = sorted({doc(deed) for deed in book} | {("zz", 0)})
    return (book, house.looked(), len(house), [house.reason(key(deed)) for deed in book],
            [(house.standing(doc=of), house.working(doc=of)) for of in docs], [house.has(key(deed)) for deed in book])


def house_of(deeds):
    house = StandingHouse()
    house.take_all(tuple(deeds))
    return house


def a_turn(chance, book):
    """The DEEDS of a BOOK in an order by which each time there is a BOOK."""
    left, had, told = list(book), set(), []
    while left:
        one = chance.choice([deed for deed in left if knew(deed) <= had])
        left.remove(one)
        had.add(key(one))
        told.append(one)
    return told


class KeepingTest(Refusing):
    def same_as_its_book(self, house, book):
        self.same(house.book(), book)
        self.assertTrue(is_book(house.book()))
        self.assertEqual(len(house), len(book))
        for one, reason in reasons(book):
            self.same(house.reason(one), reason)
            self.assertIs(house.has(one), True)
        for of in {doc(deed) for deed in book} | {("zz", 0)}:
            self.same(house.standing(doc=of), standing(book, doc=of))
            self.same(house.working(doc=of), working(book, doc=of))

    def unturned(self, house, word, call, *handed, **named):
        ahead = told_by(house)
        self.no_deed(word, call, *handed, **named)
        self.same(told_by(house), ahead)


class TakingTest(KeepingTest):
    def test_a_new_one(self):
        house = StandingHouse()
        self.same((house.book(), len(house), house.looked()), ((), 0, 0))
        self.same(house.standing(doc=("ann", 0)), ())
        self.same(house.working(doc=("ann", 0)), ())
        self.assertIs(house.has(("ann", 0)), False)

    def test_one_by_one(self):
        house = StandingHouse()
        told = [house.take(deed) for deed in TURN[:5]] + [house.take(thing=TURN[5])]
        # ("bob", 0) has the count of ("ann", 2) and a greater HAND; ("ann", 3) is a document of its own.
        self.same(told, [1, 1, 1, 1, 1, 1])
        self.same(house.looked(), 6)
        self.same_as_its_book(house, BOOK)

    def test_one_that_comes_late(self):
        story, of = opened("rows", bob="change")
        late = story.deed(story.make("bob", ("row", of)))
        rest = [story.deed(story.make("ann", ("row", of), [("ann", 1)])) for _ in range(4)]
        other = story.deed(story.make("cy", ("open", "rows"), []))
        house = house_of([deed for deed in story.book() if deed != late])
        self.assertEqual(house.looked(), 7)
        ahead = [deed for deed in rest if place(deed) < place(late)]
        self.assertEqual(len(ahead), 1)
        self.same(house.take(late), 4)
        self.same(house.looked(), 11)
        self.assertTrue(house.has(key(other)))
        self.same_as_its_book(house, story.book())

    def test_a_right_that_comes_late_turns_what_is_behind(self):
        story, of = opened("rows", bob="change")
        back = story.make("ann", ("give", of, "bob", "see"), [of])
        row = story.make("bob", ("row", of), [("ann", 1)])
        more = story.make("bob", ("row", of))
        house = house_of([story.deed(one) for one in (of, ("ann", 1), row)])
        self.same(house.reason(row), None)
        self.same(house.take(story.deed(back)), 2)
        self.same(house.reason(row), ("level", "see"))
        self.same(house.take(story.deed(more)), 1)
        self.same_as_its_book(house, story.book())

    def test_an_open_that_comes_late(self):
        story = Story()
        late = story.make("cy", ("row", ("bob", 0)))
        of = story.make("bob", ("open", "rows"), [])
        row = story.make("bob", ("row", of))
        house = house_of([story.deed(late)])
        self.same(house.reason(late), ("doc",))
        self.same(house.take(story.deed(of)), 2)
        self.same(house.reason(late), ("level", "none"))
        self.same(house.take(story.deed(row)), 1)
        self.same_as_its_book(house, story.book())

    def test_several(self):
        for many in range(len(BOOK) + 1):
            house = StandingHouse()
            self.same(house.take_all(things=TURN[:many]), many)
            self.same(house.take_all(()), 0)
            self.same(house.looked(), many)
            self.same_as_its_book(house, tuple(sorted(TURN[:many], key=key)))

    def test_of_many_books_in_many_turns(self):
        chance = random.Random(3)
        for book in [plain.book for plain in ALL[::4]] + BOOKS[::3]:
            by_one, by_some = StandingHouse(), StandingHouse()
            turn = a_turn(chance, book)
            looked = 0
            for at, deed in enumerate(turn):
                due = len([one for one in turn[:at + 1] if doc(one) == doc(deed) and place(one) >= place(deed)])
                self.same(by_one.take(deed), due)
                looked += due
                self.same(by_one.looked(), looked)
                if at % 7 == 0:
                    self.same_as_its_book(by_one, tuple(sorted(turn[:at + 1], key=key)))
            half = len(turn) // 2
            self.same(by_some.take_all(tuple(turn[:half])) + by_some.take_all(tuple(turn[half:])), looked)
            self.same_as_its_book(by_some, book)
            self.assertTrue(by_one == by_some)

    def test_all_turns_of_a_small_book(self):
        story, of = opened("rows", bob="change")
        story.make("bob", ("row", of))
        story.make("ann", ("give", of, "bob", "see"), [("ann", 1)])
        story.make("cy", ("open", "text"), [])
        turns = 0
        for turn in itertools.permutations(story.book()):
            if all(knew(deed) <= {key(one) for one in turn[:at]} for at, deed in enumerate(turn)):
                self.same_as_its_book(house_of(turn), story.book())
                turns += 1
        self.assertGreater(turns, 3)


class RefusingTest(KeepingTest):
    def setUp(self):
        self.house = house_of(BOOK[:3])

    def test_deed(self):
        for thing in THINGS + [Odd(), list(BOOK[4]), BOOK, BOOK[4][:4], BOOK[4] + (0,), StandingHouse(), Copy("ann"),
                               ("bob", False) + BOOK[4][2:], ["ann", 0], ("ann", 0)]:
            self.unturned(self.house, "deed", self.house.take, thing)
            self.unturned(self.house, "deed", self.house.take_all, (thing,))
        self.unturned(self.house, "deed", self.house.take, thing=None)

    def test_there(self):
        for deed in BOOK[:3]:
            self.unturned(self.house, "there", self.house.take, deed)
        # It goes ahead of what makes no BOOK.
        self.unturned(self.house, "there", self.house.take, ("ann", 1, 9, (), ("row", ("ann", 0))))
        self.unturned(self.house, "there", self.house.take, ("ann", 0, 0, (), ("open", "rows")))

    def test_book(self):
        row = ("row", ("ann", 0))
        many = 10 ** 199
        for deed in [
            ("bob", 1, 1, (("ann", 1),), row), ("bob", 0, 0, (("bob", 1),), row), ("bob", 1, 1, (("bob", 1),), row),
            ("bob", 0, 1, (("ann", 4),), row), ("bob", 0, 0, (("cy", 1),), row), ("bob", 0, 0, (("ann", many),), row),
            ("bob", 0, 0, (("ann", 1),), row), ("bob", 0, 2, (("ann", 1),), row), ("bob", 0, 1, (), ("open", "text")),
            ("bob", many, 0, (("bob", many),), row), BOOK[5], BOOK[3],
        ]:
            self.unturned(self.house, "book", self.house.take, deed)

    def test_book_by_what_it_knew(self):
        house = house_of(BOOK[:3] + BOOK[4:5])
        self.unturned(house, "book", house.take, ("cy", 0, 3, (("bob", 1),), ("row", ("ann", 0))))
        self.same(house.take(("cy", 0, 3, (("ann", 2), ("bob", 1)), ("row", ("ann", 0)))), 1)

    def test_several_of_which_one_is_refused(self):
        for at in range(4):
            rest = list(TURN[3:])
            for wrong, word in ((None, "deed"), ("ann", "deed"), (BOOK[1], "there"), (["ann"], "deed"),
                                (("cy", 1, 0, (("cy", 1),), ("open", "text")), "book")):
                things = tuple(rest[:at] + [wrong] + rest[at:])
                self.unturned(self.house, word, self.house.take_all, things)
        self.unturned(self.house, "there", self.house.take_all, (BOOK[4], BOOK[4]))
        self.unturned(self.house, "book", self.house.take_all, (BOOK[5], BOOK[4]))
        self.unturned(self.house, "book", self.house.take_all, (BOOK[3], BOOK[4]))
        self.unturned(self.house, "book", self.house.take_all, things=(BOOK[5], None))
        self.same(self.house.take_all(TURN[3:]), 3)
        self.same_as_its_book(self.house, BOOK)

    def test_what_is_handed_in_stays(self):
        things = (BOOK[4], ["ann", [0]])
        self.unturned(self.house, "deed", self.house.take_all, things)
        self.assertEqual(things, (BOOK[4], ["ann", [0]]))


class AskingTest(KeepingTest):
    def test_a_reason_of_no_key(self):
        house = house_of(TURN)
        for thing in odd_keys():
            self.no_key(thing, house.reason, thing)
            self.no_key(thing, StandingHouse().reason, key=thing)
            self.assertIs(house.has(thing), False)
        self.same(house.reason(key=("ann", 1)), reason_of(BOOK, ("ann", 1)))

    def test_has(self):
        house = house_of(TURN)
        for deed in BOOK:
            self.assertIs(house.has(key(deed)), True)
            self.assertIs(house.has(thing=key(deed)), True)
            self.assertIs(house.has(list(key(deed))), False)
            self.assertIs(house.has(deed), False)
        for thing in [("ann", True), ("ann", 4), house, Copy("ann"), Odd()]:
            self.assertIs(house.has(thing), False)

    def test_of_no_document(self):
        house = house_of(TURN)
        for thing in odd_keys() + [house, Copy("ann")]:
            self.same(house.standing(doc=thing), ())
            self.same(house.working(doc=thing), ())
        for call in (house.standing, house.working):
            with self.assertRaises(TypeError):
                call(("ann", 0))

    def test_equal(self):
        one, other = house_of(TURN), StandingHouse()
        self.assertIs(one == other, False)
        self.assertIs(one != other, True)
        for deed in TURN[:3] + TURN[3:4] + TURN[5:] + TURN[4:5]:
            other.take(deed)
        self.assertIs(one == other, True)
        self.assertIs(one != other, False)
        self.assertIs(StandingHouse() == StandingHouse(), True)
        self.assertIs(StandingHouse() != StandingHouse(), False)

    def test_equal_whatever_was_looked_at(self):
        book = HOUSES["text"][0]
        one, other = (house_of(a_turn(random.Random(seed), book)) for seed in (1, 2))
        self.assertNotEqual(one.looked(), other.looked())
        self.assertIs(one == other, True)
        self.assertIs(one != other, False)

    def test_unequal_with_like_reasons(self):
        one = house_of([("ann", 0, 0, (), ("open", "text"))])
        other = house_of([("ann", 0, 0, (), ("open", "rows"))])
        self.assertIs(one == other, False)
        self.assertIs(one != other, True)

    def test_unequal_to_other_things(self):
        copy = Copy("ann")
        copy.take_all(BOOK)
        house = house_of(TURN)
        for thing in THINGS + [Odd(), BOOK, list(BOOK), copy, {}]:
            for one in (house, StandingHouse()):
                self.assertIs(one == thing, False)
                self.assertIs(thing == one, False)
                self.assertIs(one != thing, True)
                self.assertIs(thing != one, True)
        self.assertIs(StandingHouse() == Copy("ann"), False)


if __name__ == "__main__":
    unittest.main()
