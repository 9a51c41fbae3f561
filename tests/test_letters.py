import random
import unittest

from coeditry.letters import is_letter, lacking
from tests.naive import BOOKS, due, key, keys_of
from tests.samples import ANN0, BOOK, THINGS, Odd
from tests.test_versions import HUGE, some_versions

LETTER = ("ann", (("ann", 4), ("bob", 2)), BOOK)


def due_lacking(book, version):
    """The LACKING, by sets."""
    left = [deed for deed in book if dict(version).get(deed[0], 0) <= deed[1]]
    small = tuple((hand, min(many, 99)) for hand, many in version)
    told = due(keys_of(small), left)
    return tuple(told + sorted(deed for deed in left if deed not in told))


class LettersTest(unittest.TestCase):
    def test_letters(self):
        for thing in (LETTER, ("bob", (), ()), ("bob", (("zz", HUGE),), BOOK[:1]), ("cy", (), BOOK[3:0:-1]),
                      ("cy", (), BOOK[:1] * 2), ("ann", (), (("ann", 7, 9, (("bob", 1),), ("row", ANN0)),))):
            self.assertIs(is_letter(thing), True)
            self.assertIs(is_letter(thing=thing), True)

    def test_no_letters(self):
        for thing in THINGS + [Odd(), list(LETTER), LETTER + (0,), LETTER[:2], BOOK, BOOK[0], LETTER[::-1]]:
            self.assertIs(is_letter(thing), False, thing)
        for thing in THINGS + [Odd(), list(BOOK), BOOK, list(BOOK[0])]:
            self.assertIs(is_letter(LETTER[:2] + (BOOK[:2] + (thing,),)), False, thing)
            if thing not in ((), BOOK):
                self.assertIs(is_letter(LETTER[:2] + (thing,)), False, thing)

    def test_no_hand_and_no_version(self):
        for bad in ("Ann", "", "abcdefghi", None, 0, True, ("ann",)):
            self.assertIs(is_letter((bad,) + LETTER[1:]), False)
        for bad in (None, [], (("ann", 0),), (("ann", True),), (("bob", 1), ("ann", 1)), (["ann", 1],), "ann", 0):
            self.assertIs(is_letter(("ann", bad, ())), False)


class LackingTest(unittest.TestCase):
    def test_of_books(self):
        for seed, book in enumerate(BOOKS):
            for version in some_versions(seed):
                told = lacking(book, version)
                self.assertEqual(told, due_lacking(book, version))
                self.assertEqual(lacking(version=version, book=book), told)
                self.assertIs(type(told), tuple)

    def test_all_and_none(self):
        self.assertEqual(lacking((), ()), ())
        self.assertEqual(lacking((), (("ann", HUGE),)), ())
        self.assertEqual(lacking(BOOK, (("ann", 4), ("bob", 2))), ())
        self.assertEqual(lacking(BOOK, (("ann", HUGE), ("bob", 1))), BOOK[5:])

    def test_the_turn_is_not_the_order_of_keys(self):
        # ann's last one knew bob's first one, which comes ahead of it.
        self.assertEqual(lacking(BOOK, ()), BOOK[:3] + (BOOK[4], BOOK[3], BOOK[5]))
        self.assertEqual(lacking(BOOK, (("ann", 3),)), (BOOK[4], BOOK[3], BOOK[5]))

    def test_the_least_key_again_and_again(self):
        # Once cy's came, ann's is due, and comes ahead of dora's, which was due all the while.
        book = (("ann", 0, 0, (("cy", 1),), ("open", "text")), ("bob", 0, 0, (), ("open", "text")),
                ("cy", 0, 0, (), ("open", "text")), ("dora", 0, 0, (), ("open", "text")))
        self.assertEqual(lacking(book, ()), (book[1], book[2], book[0], book[3]))

    def test_those_not_due_are_behind_by_keys(self):
        waiting = (("ann", 0, 0, (("cy", 1),), ("row", ANN0)), ("ann", 1, 0, (("ann", 1), ("cy", 1)), ("row", ANN0)))
        huge = ("aa", 0, 0, (("zz", HUGE),), ("row", ANN0))
        ready = ("bob", 0, 0, (), ("row", ANN0))
        self.assertEqual(lacking((huge,) + waiting + (ready,), ()), (ready, huge) + waiting)
        self.assertEqual(lacking((huge,) + waiting + (ready,), (("cy", 1),)), waiting + (ready, huge))
        self.assertEqual(lacking((huge,) + waiting, (("zz", HUGE),)), (huge,) + waiting)

    def test_a_version_by_chance(self):
        chance = random.Random(3)
        for book in BOOKS[:20]:
            for _ in range(5):
                part = tuple(deed for deed in book if chance.random() < 0.7)
                told = lacking(part, ())
                self.assertEqual(told, due_lacking(part, ()))
                self.assertEqual(sorted(told), sorted(part))
                self.assertEqual(len({key(deed) for deed in told}), len(part))


if __name__ == "__main__":
    unittest.main()
