import unittest

from coeditry.books import is_book
from coeditry.making import made
from tests.naive import BOOKS, make
from tests.samples import ANN0, BOOK, WHATS


class MakingTest(unittest.TestCase):
    def test_each_what(self):
        for book in BOOKS + [BOOK, ()]:
            for hand in ("ann", "bob", "dora"):
                for what, _, _ in WHATS:
                    deed = made(book, what, hand=hand)
                    self.assertEqual(deed, make(book, hand, what))
                    self.assertIs(type(deed), tuple)
                self.assertIs(is_book(tuple(sorted(book + (deed,)))), True)

    def test_of_a_book(self):
        self.assertEqual(made((), ("open", "text"), hand="ann"), ("ann", 0, 0, (), ("open", "text")))
        due = ("cy", 0, 4, (("ann", 4), ("bob", 2)), ("row", ANN0))
        self.assertEqual(made(BOOK, ("row", ANN0), hand="cy"), due)
        self.assertEqual(made(hand="cy", what=("row", ANN0), book=BOOK), due)
        self.assertEqual(made(BOOK, ("row", ("ann", 3)), hand="ann")[:3], ("ann", 4, 1))
        self.assertEqual(made(BOOK, ("row", ("bob", 9)), hand="ann")[:3], ("ann", 4, 0))

    def test_an_open_behind_deeds_of_its_document(self):
        book = (("bob", 0, 0, (), ("row", ANN0)),)
        self.assertEqual(made(book, ("open", "rows"), hand="ann"), ("ann", 0, 1, (("bob", 1),), ("open", "rows")))
        self.assertEqual(made(book, ("open", "rows"), hand="cy"), ("cy", 0, 0, (("bob", 1),), ("open", "rows")))

    def test_the_hand_by_its_name_alone(self):
        with self.assertRaises(TypeError):
            made((), ("open", "text"), "ann")


if __name__ == "__main__":
    unittest.main()
