import itertools
import unittest

from coeditry.deeds import doc_of, in_order, is_ahead, key_of, knew_it
from tests.samples import ANN0, WHATS

ONE = ("bob", 3, 2, (("ann", 1), ("bob", 3)), ("row", ANN0))
TWO = ("ann", 5, 2, (("ann", 5),), ("row", ANN0))
THREE = ("ann", 6, 1, (("ann", 6),), ("row", ANN0))
FOUR = ("cy", 0, 10, (("ann", 1),), ("row", ANN0))


class DeedsTest(unittest.TestCase):
    def test_key(self):
        self.assertEqual(key_of(ONE), ("bob", 3))
        self.assertEqual(key_of(deed=TWO), ("ann", 5))

    def test_document(self):
        for what, _, _ in WHATS:
            deed = ("cy", 4, 9, (("ann", 1), ("cy", 4)), what)
            due = ("cy", 4) if what[0] == "open" else ANN0
            self.assertEqual(doc_of(deed), due)
            self.assertEqual(doc_of(deed=deed), due)

    def test_ahead_by_count_then_by_hand(self):
        for one, other in itertools.product((ONE, TWO, THREE, FOUR), repeat=2):
            due = (one[2], one[0]) < (other[2], other[0])
            self.assertIs(is_ahead(one, other), due)
            self.assertIs(is_ahead(other=other, one=one), due)
        self.assertIs(is_ahead(THREE, TWO), True)
        self.assertIs(is_ahead(TWO, ONE), True)
        self.assertIs(is_ahead(ONE, FOUR), True)
        self.assertIs(is_ahead(ONE, ONE), False)

    def test_in_order(self):
        due = (THREE, TWO, ONE, FOUR)
        for deeds in itertools.permutations(due):
            self.assertEqual(in_order(deeds), due)
            handed = list(deeds)
            told = in_order(deeds=handed)
            self.assertEqual(told, due)
            self.assertIs(type(told), tuple)
            self.assertEqual(handed, list(deeds))

    def test_in_order_of_none_and_one(self):
        self.assertEqual(in_order(()), ())
        self.assertEqual(in_order([]), ())
        self.assertEqual(in_order([ONE]), (ONE,))

    def test_knew(self):
        self.assertIs(knew_it(ONE, ("ann", 0)), True)
        self.assertIs(knew_it(ONE, ("ann", 1)), False)
        self.assertIs(knew_it(ONE, ("bob", 2)), True)
        self.assertIs(knew_it(ONE, ("bob", 3)), False)
        self.assertIs(knew_it(ONE, ("bob", 4)), False)
        self.assertIs(knew_it(ONE, ("cy", 0)), False)
        self.assertIs(knew_it(ONE, ("aa", 0)), False)
        self.assertIs(knew_it(key=("ann", 0), deed=ONE), True)
        self.assertIs(knew_it(("ann", 0, 0, (), ("open", "text")), ("ann", 0)), False)


if __name__ == "__main__":
    unittest.main()
