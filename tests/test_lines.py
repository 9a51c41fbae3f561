import unittest

from coeditry.lines import shown_book, shown_deed, shown_version, shown_what
from tests.samples import ANN0, BOOK, WHATS


class LinesTest(unittest.TestCase):
    def test_each_what(self):
        for what, text, _ in WHATS:
            self.assertEqual(shown_what(what), text)
            self.assertEqual(shown_what(what=what), text)

    def test_words_of_the_document(self):
        self.assertEqual(shown_what(("put", ANN0, None, "ab")), "put ann.0 - 'ab")
        cut = ("cut", ANN0, ((("ann", 3), 0), (("ann", 3), 1)))
        self.assertEqual(shown_what(cut), "cut ann.0 ann.3.0,ann.3.1")
        self.assertEqual(shown_what(("set", ANN0, ("ann", 1), "cost", 7)), "set ann.0 ann.1 cost 7")
        self.assertEqual(shown_what(("suggest", ANN0, ("put", None, "x"))), "suggest ann.0 put - 'x")
        deed = ("ann", 1, 1, (("ann", 1),), ("put", ANN0, None, "ab"))
        self.assertEqual(shown_deed(deed), "ann.1 1 ann:1 put ann.0 - 'ab")

    def test_truths_are_no_numbers(self):
        self.assertEqual(shown_what(("look", ANN0, ((ANN0, 1),), "b", True)), "look ann.0 ann.0.1 b +")
        self.assertEqual(shown_what(("look", ANN0, ((ANN0, 1),), "b", False)), "look ann.0 ann.0.1 b /")

    def test_version(self):
        self.assertEqual(shown_version(()), "-")
        self.assertEqual(shown_version((("ann", 3),)), "ann:3")
        self.assertEqual(shown_version((("ann", 3), ("bob", 999999999999))), "ann:3 bob:999999999999")
        self.assertEqual(shown_version(version=(("a", 1), ("b", 2), ("c", 3))), "a:1 b:2 c:3")

    def test_deed_that_knew_none_one_and_several(self):
        self.assertEqual(shown_deed(("ann", 0, 0, (), ("open", "tree"))), "ann.0 0 - open tree")
        self.assertEqual(shown_deed(("bob", 0, 12, (("ann", 4),), ("row", ANN0))), "bob.0 12 ann:4 row ann.0")
        several = ("bob", 2, 3, (("ann", 1), ("bob", 2), ("cy", 10)), ("row", ANN0))
        self.assertEqual(shown_deed(deed=several), "bob.2 3 ann:1,bob:2,cy:10 row ann.0")

    def test_book_of_none_one_and_several(self):
        self.assertEqual(shown_book(()), "")
        self.assertEqual(shown_book(BOOK[:1]), "ann.0 0 - open text")
        self.assertEqual(shown_book(book=BOOK), "\n".join([
            "ann.0 0 - open text",
            "ann.1 1 ann:1 give ann.0 bob change",
            "ann.2 2 ann:2 put ann.0 - 'ab",
            "ann.3 0 ann:3,bob:1 open rows",
            "bob.0 2 ann:2 put ann.0 - 'c",
            "bob.1 3 ann:3,bob:1 cut ann.0 ann.2.0",
        ]))


if __name__ == "__main__":
    unittest.main()
